import PyProof.Rows.All
import Wide.All
import OpenK.AllK
import Wide.FinOn
import Lean
import PyProof.EqAt
import PyProof.EqKinds
import PyProof.TupleCall
import KE.KRevIter
import KE.KDictOf
import PyProof.AttrMissHeap
import PyProof.StrWalks
import PyProof.StrBlockI
import PyProof.FString5
import PyProof.SetRoads
import PyProof.SetNew
import PyProof.TupleKey
import PyProof.InstEq
import PySem.SetOps
import PyProof.Rows.SetFrom
import KE.KTryMore
import PyProof.NsDelKeeps
import KE.KIsAll
import KE.KItemsList
import KE.KSortTup
import KE.KDictSum
import KE.KLam
import KE.KNestM
import KE.KSortTup
import PySem.Challenge.RW_satchelmeet_k61_whole_tree_and_prices
open List renaming length_map → zA,mem_of_getElem? → zB,getElem?_eq_some_iff → zC,getElem?_map → zD,getElem?_eq_getElem → zF,map_append → zG,mem_append_right → zJ,mem_cons → zK,length_append → zN,size_toArray → zO,mem_singleton → zP,mem_map → zQ,mem_append → zT,getD_eq_getElem?_getD → zV,mem_append_left → zX,getElem?_append_right → zY,length_cons → ze,map_cons → zf,getElem?_append_left → zi,not_mem_nil → zj,mem_range → zn,length_take → zu,take_length → zv,mem_cons_of_mem → zw,getElem_mem → z6,mem_iff_getElem? → yA,map_map → yF,mem_map_of_mem → yI,length_range → yJ,length_nil → yL,mem_cons_self → yN,getElem?_cons_succ → yO,mem_reverse → yP,replicate_succ → yR,pairwise_iff_getElem → yU,length_singleton → yV,map_nil → yX,getElem?_cons_zero → yY,lookup_cons → ya,mem_filterMap → yb,length_replicate → yd,nodup_cons → yg,flatten_cons → yi,filterMap_cons → yj,length_reverse → yk,length_drop → yl,set_cons_zero → yn,set_cons_succ → yo,append_nil → yp,find?_cons → yq,sum_append → yu,any_cons → yw,reverse_cons → yx,pairwise_map → yz,foldl_append → xA,cons_append → xB,all_eq_true → xD,of_mem_zip → xI,nil_append → xJ,map_set → xN
open Nat renaming le_refl → zE,lt_of_lt_of_le → zS,ne_of_lt → zW,zero_le → zc,not_lt_zero → zd,testBit_or → zo,testBit_two_pow → zq,eq_of_testBit_eq → zy,le_trans → zz,lt_of_le_of_lt → z4,zero_testBit → z8,le_succ → yC,testBit_and → yE,lt_irrefl → yK,two_pow_pos → yM,lt_succ_iff → yT,ne_of_gt → yZ,lt_succ_of_lt → yy,succ_le_succ → xC,mod_eq_of_lt → xF,le_of_lt → xK
open PySem.W renaming nsIn → zH,keepIn → zI,mg_of → zL,mg_none_of → zh,kia_one → yD,fnOf → xL
open Bool renaming false_ne_true → zM,and_eq_true → zb,false_eq_true → zg,false_and → yQ,or_eq_true → yh,and_false → ym,true_and → xG,eq_iff_iff → xH
open PyProof.Rows renaming boot_isinstance → zR,callWith_type1 → zl,boot_tuple → yB,boot_list → yH,boot_min → ye
open PySem.F renaming plainAttrs_list → zU,slot_list_append → zZ,type_list_append → za,plain_min_loop → yG
open Int renaming eq_ofNat_of_zero_le → zk,toNat_natCast → zm,le_refl → zx,toNat_of_nonneg → yS,natCast_nonneg → yW,emod_lt_of_pos → yc,emod_nonneg → yr,le_trans → xE,zero_add → xM
open PySem renaming mem_of_lookup → zp
open Option renaming map_some → yf
set_option Elab.async false
set_option linter.all false
set_option maxRecDepth 100000
set_option maxHeartbeats 4000000
namespace L2
open PySem PySem.Spec PyProof.Rows
abbrev Key:=Sum Int Str
def mw:Key->Value->Bool
 | .inl k,v=>Value.isInt k v
 | .inr x,v=>Value.isStrOf x v
def WL (w:World):Key->Int
 | .inl k=>hashInt k
 | .inr x=>hashStr w x
theorem wO:∀ {k:Key}{v:Value},mw k v=true->(∃ i t,k=Sum.inl i/\v=Value.int i t)\/(∃ x t,k=Sum.inr x/\v=Value.str x t)
 | .inl i,v,h=>by
  obtain ⟨t,e⟩:=Value.isInt_shape (k:=i) (v:=v) h;exact .inl ⟨i,t,rfl,e⟩
 | .inr x,v,h=>by
  obtain ⟨t,e⟩:=Value.isStrOf_shape (x:=x) (v:=v) h;exact .inr ⟨x,t,rfl,e⟩
theorem vq (i:Int)(t:Tok):mw (.inl i) (.int i t)=true:=by simp [mw,Value.isInt]
theorem vp (x:Str)(t:Tok):mw (.inr x) (.str x t)=true:=by simp [mw,Value.isStrOf]
theorem Qc (a b:Int):decide ((Sum.inl a:Key)=Sum.inl b)=(a == b):=by
 by_cases e:a=b
 ·subst e;simp
 ·have h:¬ (Sum.inl a:Key)=Sum.inl b:=λq=>e (Sum.inl.inj q);rw [decide_eq_false h];exact (beq_eq_false_iff_ne.mpr e).symm
theorem P8 (a b:Str):decide ((Sum.inr a:Key)=Sum.inr b)=decide (a=b):=by
 by_cases e:a=b
 ·subst e;simp
 ·have h:¬ (Sum.inr a:Key)=Sum.inr b:=λq=>e (Sum.inr.inj q);rw [decide_eq_false h,decide_eq_false e]
theorem Qa (a:Int)(b:Str):decide ((Sum.inl a:Key)=Sum.inr b)=false:=decide_eq_false (λq=>nomatch q)
theorem P9 (a:Str)(b:Int):decide ((Sum.inr a:Key)=Sum.inl b)=false:=decide_eq_false (λq=>nomatch q)
def bH (prog:Program)(w:World):PySem.KeyKind prog w Key where
 is:=mw
 hash:=WL w
 inj:=λv a b ha hb=>by
  rcases wO ha with ⟨i,t,rfl,rfl⟩ | ⟨x,t,rfl,rfl⟩
  ·rcases wO hb with ⟨j,u,rfl,e⟩ | ⟨y,u,rfl,e⟩
   ·injection e with e1 _;rw [e1]
   ·exact nomatch e
  ·rcases wO hb with ⟨j,u,rfl,e⟩ | ⟨y,u,rfl,e⟩
   ·exact nomatch e
   ·injection e with e1 _;rw [e1]
 byValue:=λk v h=>by
  rcases wO h with ⟨i,t,rfl,rfl⟩ | ⟨x,t,rfl,rfl⟩ <;> rfl
 pyHash:=λhv h=>by
  rcases wO hv with ⟨i,t,rfl,rfl⟩ | ⟨x,t,rfl,rfl⟩
  ·exact wpAny_pyHash_int h
  ·exact wpAny_pyHash_str h
 eqBool:=λhu hv h=>by
  rcases wO hu with ⟨i,t,rfl,rfl⟩ | ⟨x,t,rfl,rfl⟩
  ·rcases wO hv with ⟨j,u,rfl,rfl⟩ | ⟨y,u,rfl,rfl⟩
   ·rw [Qc] at h;exact wpAny_eqBool_int h
   ·rw [Qa] at h;exact SeqAt.EqAt.int_str i t y u _ _ _ _ h
  ·rcases wO hv with ⟨j,u,rfl,rfl⟩ | ⟨y,u,rfl,rfl⟩
   ·rw [P9] at h;exact SeqAt.EqAt.str_int x t j u _ _ _ _ h
   ·rw [P8] at h;exact wpAny_eqBool_str h
 «strs»:=λk x t v h=>by
  rcases wO h with ⟨i,u,rfl,e⟩ | ⟨y,u,rfl,e⟩
  ·exact nomatch e
  ·injection e with e1 _
   subst e1;cases v <;> rfl
theorem pO (prog:Program)(w:World)(i:Int)(t:Tok):(bH prog w).is (.inl i) (.int i t)=true:=vq i t
theorem pN (prog:Program)(w:World)(x:Str)(t:Tok):(bH prog w).is (.inr x) (.str x t)=true:=vp x t
inductive V where
 | bD | bl (b:Bool) | int (i:Int) | str (x:Str) | uw (b:Array UInt8) | MY (b:UInt64) | ref (a:Addr) | ty (n:String)
 deriving DecidableEq
def RelV:V->Value->Prop
 | .bD,u=>u=Value.none
 | .bl b,u=>u=Value.bool b
 | .int i,u=>∃ t,u=Value.int i t
 | .str x,u=>∃ t,u=Value.str x t
 | .uw b,u=>∃ t,u=Value.bytes b t
 | .MY b,u=>∃ t,u=Value.float b t
 | .ref a,u=>u=Value.ref a
 | .ty n,u=>u=Value.type n
abbrev Vals:List V->List Value->Prop:=Paired RelV
theorem Vals.length {xs:List V}{us:List Value}(r:Vals xs us):xs.length=us.length:=Paired.length r
theorem Vals.get:∀ {xs:List V}{us:List Value}{i:Nat}{x:V},Vals xs us->xs[i]?=some x->∃ u,us[i]?=some u/\RelV x u
 | _,_,_,_,.nil,e=>by simp at e
 | _,_,0,_,.cons r _,e=>by simp at e;subst e;exact ⟨_,rfl,r⟩
 | _,_,i + 1,x,.cons _ t,e=>by
  obtain ⟨u,h1,h2⟩:=Vals.get (i:=i) (x:=x) t (by simpa using e);exact ⟨u,by simpa using h1,h2⟩
theorem Vals.set {x:V}{u:Value}(r:RelV x u):∀ {xs:List V}{us:List Value} (i:Nat),Vals xs us->Vals (xs.set i x) (us.set i u)
 | _,_,_,.nil=>.nil
 | _,_,0,.cons _ t=>.cons r t
 | _,_,i + 1,.cons q t=>.cons q (Vals.set r i t)
theorem Vals.append:∀ {xs ys:List V}{us ws:List Value},Vals xs us->Vals ys ws->Vals (xs++ys) (us++ws)
 | _,_,_,_,.nil,s=>s
 | _,_,_,_,.cons r t,s=>.cons r (Vals.append t s)
theorem Vals.take:∀ {xs:List V}{us:List Value} (n:Nat),Vals xs us->Vals (xs.take n) (us.take n)
 | _,_,0,_=>.nil
 | _,_,_ + 1,.nil=>.nil
 | _,_,n + 1,.cons r t=>.cons r (Vals.take n t)
theorem Vals.drop:∀ {xs:List V}{us:List Value} (n:Nat),Vals xs us->Vals (xs.drop n) (us.drop n)
 | _,_,0,r=>r
 | _,_,_ + 1,.nil=>.nil
 | _,_,n + 1,.cons _ t=>Vals.drop n t
def kP:Option V->Option Value->Prop
 | some v,some u=>RelV v u
 | none,none=>True
 | _,_=>False
def KV {κ:Type}:List (κ×V)->List (κ×Value)->Prop:=Paired λ(p:κ×V) (q:κ×Value)=>p.1=q.1/\RelV p.2 q.2
def kV:Key->V
 | .inl i=>.int i
 | .inr x=>.str x
inductive HO where
  | lst (xs:List V)
  | tup (xs:List V)
  | dK (aF:List (Key×V)) | dT (aF:List (List Key×V))
  | set (S:Int->Bool) (n:Nat)
  | ins (C dx:Addr) (fs:List (Str×V))
  | own (x:Addr)
  | xd (fs:List (Str×V))
  | met (f x:Addr)
  | Ue (lo hi:Int)
  | nN (o:Obj) (u:HO)
  | ju (ps:Array Value)
  | ext (φ:Heap->Prop)
abbrev Hp:=Addr->Option HO
def upd (H:Hp)(a:Addr)(o:HO):Hp:=λb=>if b=a then some o else H b
theorem xS {H:Hp}{a:Addr}{o:HO}:upd H a o a=some o:=by unfold upd;rw [if_pos rfl]
theorem xX {H:Hp}{a b:Addr}{o:HO}(h:b≠a):upd H a o b=H b:=by unfold upd;rw [if_neg h]
theorem bY {H:Hp}{a b:Addr}{o u:HO}(h:H a=some o)(h':H b=some u)(d:o≠u):a≠b:=by intro e;subst e;rw [h] at h';exact d (Option.some.inj h')
theorem xT {H:Hp}{a b:Addr}{o:HO}(h:H a=some o)(h':H b=none):a≠b:=by intro e;subst e;rw [h] at h';cases h'
theorem j7 {h:Heap}{o:Obj}(hf:o.isFreed=false:=by rfl)(hd:o.dict=none:=by rfl):∀ ob,(h.push o).get? h.objs.size=some ob->ob.dict=none:=λob e=>by
 rw [Heap.get?_push_size h hf] at e;cases e;exact hd
section
variable (P:Program) (w:World)
def aW (H:Hp)(h:Heap)(a:Addr):HO->Prop
 | .lst xs=>xs.length<=sizeLine/\∃ (ay:List Value) (n:Nat),Vals xs ay/\h.get? a=some { cls:=.type "list", data:=.seq ay.toArray n }
 | .tup xs=>(xs.length<=sizeLine/\∀ ob,h.get? a=some ob->ob.dict=none)/\∃ ay:List Value,Vals xs ay/\IsTup h a ay.toArray
 | .dK aF=>aF.length<=sizeLine/\(a == sysModules)=false/\∃ vs,KV aF vs/\h.DictOf (bH P w) a vs
 | .dT aF=>aF.length<=sizeLine/\(a == sysModules)=false/\∃ xs:List (List Key×Addr×Value),
   Paired (λ(p:List Key×V) (q:List Key×Addr×Value)=>p.1=q.1/\H q.2.1=some (.tup (p.1.map kV))/\RelV p.2 q.2.2) aF xs /\
   ∃ o es ep,h.get? a=some o/\o.ExactDict/\o.data=.dict es ep/\es.toList=xs.map (entryOfKey (tupleKind (bH P w)))/\(xs.map (·.1)).Nodup
 | .set S n=>h.SetOf (intKind P w) a S n
 | .ins C dx fs=>H dx=some (.own a)/\fs.length<=1000/\dx≠a/\h.get? a=some (PySem.W.instObj C dx) /\
   ∃ mA,h.Ns1 dx mA/\(∀ f,kP (fs.lookup f) (mA f))/\PySem.Within mA (fs.map (·.1))
 | .own _=>∃ o,h.get? a=some o
 | .xd fs=>∃ mA,h.Ns1 a mA/\∀ f,kP (fs.lookup f) (mA f)
 | .Ue lo hi=>∃ t u v,h.get? a=some { cls:=.type "range", data:=.fields #[.int lo t,.int hi u,.int 1 v] }
 | .nN o u=>h.get? a=some o/\aW H h a u
 | .ju ps=>h.get? a=some { cls:=.none,data:=.fields ps }
 | .met f x=>h.get? a=some (PySem.W.methodObj (.ref f) (.ref x))
 | .ext φ=>φ h/\(∃ o,h.get? a=some o)/\∀ h1 h2:Heap,φ h1->(∀ o,h1.get? a=some o->h2.get? a=some o)->φ h2
def fZ (H:Hp)(h:Heap):Prop:=∀ a o,H a=some o->aW P w H h a o
end
section
variable {P:Program}{w:World}{H H':Hp}{h h':Heap}{a:Addr}{o:HO}
theorem aW.lt (x:aW P w H h a o):a < h.objs.size:=by
 cases o with
 | lst xs=>obtain ⟨_,_,_,_,e⟩:=x;exact Heap.lt_size e
 | tup xs=>obtain ⟨_,_,_,p⟩:=x;exact p.lt
 | dK aF=>obtain ⟨_,_,_,_,o,_,_,e,_⟩:=x;exact Heap.lt_size e
 | dT aF=>obtain ⟨_,_,_,_,o,_,_,e,_⟩:=x;exact Heap.lt_size e
 | set S n=>obtain ⟨o,_,_,_,e,_⟩:=x;exact Heap.lt_size e
 | ins C dx fs=>obtain ⟨_,_,_,e,_⟩:=x;exact Heap.lt_size e
 | own y=>obtain ⟨_,e⟩:=x;exact Heap.lt_size e
 | xd fs=>obtain ⟨_,⟨_,_,_,e,_⟩,_⟩:=x;exact Heap.lt_size e
 | Ue lo hi=>obtain ⟨_,_,_,e⟩:=x;exact Heap.lt_size e
 | nN ob u=>obtain ⟨e,_⟩:=x;exact Heap.lt_size e
 | ju ps=>exact Heap.lt_size (show h.get? a=some _ from x)
 | met f y=>exact Heap.lt_size (show h.get? a=some _ from x)
 | ext φ=>obtain ⟨_,⟨_,e⟩,_⟩:=x;exact Heap.lt_size e
theorem Paired.PY {α β:Type}{F G:α->β->Prop}:∀ {Sg:List α}{Sf:List β},Paired F Sg Sf->(∀ a b,F a b->G a b)->Paired G Sg Sf
 | _,_,.nil,_=>.nil
 | _,_,.cons r t,f=>.cons (f _ _ r) (Paired.PY t f)
theorem aW.fh (x:aW P w H h a o)(k:∀ b u,(b=a\/H b=some (.own a))->h.get? b=some u->h'.get? b=some u)
  (ho:∀ b,H b=some (.own a)->H' b=some (.own a)) (ht:∀ b xs,H b=some (.tup xs)->H' b=some (.tup xs)):aW P w H' h' a o:=by
 induction o with
 | lst xs=>obtain ⟨z,ay,n,r,e⟩:=x;exact ⟨z,ay,n,r,k _ _ (.inl rfl) e⟩
 | tup xs=>obtain ⟨z,ay,r,ob,e,c⟩:=x;exact ⟨⟨z.1,λob' e'=>by rw [k _ _ (.inl rfl) e] at e';cases e';exact z.2 _ e⟩,ay,r,ob,k _ _ (.inl rfl) e,c⟩
 | dK aF=>obtain ⟨z,y,vs,r,ob,es,ep,e,c⟩:=x;exact ⟨z,y,vs,r,ob,es,ep,k _ _ (.inl rfl) e,c⟩
 | dT aF=>
  obtain ⟨z,y,xs,r,ob,es,ep,e,c⟩:=x;exact ⟨z,y,xs,Paired.PY r λp q z=>⟨z.1,ht _ _ z.2.1,z.2.2⟩,ob,es,ep,k _ _ (.inl rfl) e,c⟩
 | set S n=>obtain ⟨ob,es,ep,t,e,c⟩:=x;exact ⟨ob,es,ep,t,k _ _ (.inl rfl) e,c⟩
 | ins C dx fs=>
  obtain ⟨d,z,ne,e,mA,⟨od,es,ep,e2,c⟩,r⟩:=x;exact ⟨ho _ d,z,ne,k _ _ (.inl rfl) e,mA,⟨od,es,ep,k _ _ (.inr d) e2,c⟩,r⟩
 | own y=>obtain ⟨ob,e⟩:=x;exact ⟨ob,k _ _ (.inl rfl) e⟩
 | xd fs=>obtain ⟨mA,⟨od,es,ep,e,c⟩,r⟩:=x;exact ⟨mA,⟨od,es,ep,k _ _ (.inl rfl) e,c⟩,r⟩
 | Ue lo hi=>obtain ⟨t,u,v,e⟩:=x;exact ⟨t,u,v,k _ _ (.inl rfl) e⟩
 | nN ob u ih=>obtain ⟨e,q⟩:=x;exact ⟨k _ _ (.inl rfl) e,ih q⟩
 | ju ps=>
  have e:h.get? a=some { cls:=.none,data:=.fields ps }:=x;show h'.get? a=some { cls:=.none,data:=.fields ps };exact k a _ (.inl rfl) e
 | met f y=>
  have e:h.get? a=some (PySem.W.methodObj (.ref f) (.ref y)):=x;show h'.get? a=some (PySem.W.methodObj (.ref f) (.ref y));exact k a _ (.inl rfl) e
 | ext φ=>obtain ⟨p,⟨o,e⟩,st⟩:=x;exact ⟨st _ _ p λo q=>k _ _ (.inl rfl) q,⟨o,k _ _ (.inl rfl) e⟩,st⟩
theorem fZ.lt (x:fZ P w H h)(e:H a=some o):a < h.objs.size:=(x a o e).lt
theorem fZ.fresh (x:fZ P w H h)(e:h.objs.size<=a):H a=none:=by
 cases q:H a with
 | none=>rfl
 | some u=>exact absurd (zS (x.lt q) e) (yK _)
theorem fZ.kept (x:fZ P w H h)(k:∀ b u,h.get? b=some u->h'.get? b=some u):fZ P w H h':=λa o e=>
 (x a o e).fh (λb u _ q=>k b u q) (λ_ q=>q) λ_ _ q=>q
theorem fZ.laid (x:fZ P w H h)(k:∀ b u,h.get? b=some u->h'.get? b=some u)(hp:h.objs.size<=a)(new:aW P w (upd H a o) h' a o):fZ P w (upd H a o) h':=λb u e=>by
 have hn:=x.fresh hp;by_cases hb:b=a
 ·subst hb;rw [xS] at e;cases e;exact new
 ·rw [xX hb] at e;exact (x b u e).fh (λc v _ q=>k c v q) (λc q=>by rw [xX (xT q hn)];exact q) λc xs q=>by rw [xX (xT q hn)];exact q
end
def Rd (H:Hp)(a:Addr)(u:HO):Prop:=H a=some u\/∃ o,H a=some (.nN o u)
theorem Rd.ok {P:Program}{w:World}{H:Hp}{h:Heap}{a:Addr}{u:HO}(r:Rd H a u)(x:fZ P w H h):aW P w H h a u:=by
 rcases r with r | ⟨o,r⟩
 ·exact x a u r
 ·obtain ⟨_,q⟩:=x a _ r;exact q
def TR:Option HO->Prop
 | some (.lst _)=>True
 | some (.dK _)=>True
 | some (.dT _)=>True
 | some (.set _ _)=>True
 | some (.ins _ _ _)=>True
 | some (.ext _)=>True
 | _=>False
section
variable {P:Program}{w:World}{H:Hp}{h h':Heap}{x e:Addr}{o':HO}
theorem fZ.write (ok:fZ P w H h)(mu:TR (H x))(he:e=x\/H e=some (.own x))(k:∀ b u,b≠e->h.get? b=some u->h'.get? b=some u)(Rq:∃ u,h'.get? e=some u)
  (new:aW P w (upd H x o') h' x o'):fZ P w (upd H x o') h':=λb u q=>by
 have R6:∀ c y,H c=some (.own y)->c≠x:=λc y r z=>by subst z;rw [r] at mu;exact mu
 have Wy:∀ c xs,H c=some (.tup xs)->c≠x:=λc xs r z=>by subst z;rw [r] at mu;exact mu
 by_cases hb:b=x
 ·subst hb;rw [xS] at q;cases q;exact new
 ·rw [xX hb] at q;by_cases Qy:b=e
  ·have q':H b=some (.own x):=by
    rcases he with z | z
    ·exact absurd (Qy.trans z) hb
    ·rw [Qy];exact z
   rw [q] at q';cases q';obtain ⟨v,hv⟩:=Rq;exact ⟨v,by rw [Qy];exact hv⟩
  ·refine (ok b u q).fh (λc v hc r=>k c v ?_ r) (λc r=>by rw [xX (R6 c b r)];exact r) λc xs r=>by rw [xX (Wy c xs r)];exact r
   rcases hc with rfl | hc
   ·exact Qy
   ·rintro rfl;rcases he with z | z
    ·exact R6 c b hc z
    ·rw [hc] at z;cases z;exact hb rfl
end
structure Un (fs ex:List Addr) (H H':Hp) (h h':Heap):Prop where
 keep:∀ b o,h.get? b=some o->H b=none->b ∉ fs->b ∉ ex->h'.get? b=some o
 slot:∀ b o,h.get? b=some o->H b=none->b∈fs->b ∉ ex->∃ sl,h'.get? b=some { o with slots:=sl }
 free:∀ b o,h.get? b=some o->H b=none->b ∉ ex->H' b=none
 there:∀ b o,h.get? b=some o->b ∉ ex->∃ o',h'.get? b=some o'
 aQ:∀ b xs,H b=some (.tup xs)->H' b=some (.tup xs)
 lG:∀ b o u,H b=some (.nN o u)->H' b=some (.nN o u)
 kY:∀ b ps,H b=some (.ju ps)->∃ more,H' b=some (.ju (ps++more))
section
variable {fs fs' ex ex':List Addr} {H H1 H2:Hp} {h h1 h2 h':Heap}{a x e:Addr}{o:HO}
theorem Un.any (u:Un fs ex H H1 h h1){b:Addr}{ob:Obj}(q:h.get? b=some ob)(n:H b=none)(hx:b ∉ ex):∃ sl,h1.get? b=some { ob with slots:=sl }:=by
 by_cases hb:b∈fs
 ·exact u.slot b ob q n hb hx
 ·exact ⟨ob.slots,u.keep b ob q n hb hx⟩
theorem Un.kept (k:∀ b u,h.get? b=some u->h'.get? b=some u):Un fs ex H H h h':=
 ⟨λb ob q _ _ _=>k b ob q,λb ob q _ _ _=>⟨ob.slots,k b ob q⟩,λ_ _ _ n _=>n,λb ob q _=>⟨ob,k b ob q⟩,λ_ _ q=>q,λ_ _ _ q=>q,λ_ ps q=>⟨#[],by rw [q];simp⟩⟩
theorem Un.refl:Un fs ex H H h h:=Un.kept λ_ _ q=>q
theorem Un.laid (k:∀ b u,h.get? b=some u->h'.get? b=some u)(hp:h.objs.size<=a)(hn:H a=none):Un fs ex H (upd H a o) h h' where
 keep:=λb u q _ _ _=>k b u q
 slot:=λb u q _ _ _=>⟨u.slots,k b u q⟩
 free:=λb u q n _=>by rw [xX (zW (zS (Heap.lt_size q) hp))];exact n
 there:=λb u q _=>⟨u,k b u q⟩
 aQ:=λb xs q=>by rw [xX (xT q hn)];exact q
 lG:=λb u xs q=>by rw [xX (xT q hn)];exact q
 kY:=λb ps q=>⟨#[],by rw [xX (xT q hn),q];simp⟩
theorem Un.write (mu:TR (H x))(he:e=x\/H e=some (.own x))(k:∀ b u,b≠e->h.get? b=some u->h'.get? b=some u)(Rq:∃ u,h'.get? e=some u):Un fs ex H (upd H x o) h h':=by
 have hx:∀ b,H b=none->b≠x:=λb n z=>by subst z;rw [n] at mu;exact mu
 have hb:∀ b,H b=none->b≠e:=λb n z=>by
  subst z;rcases he with r | r
  ·exact hx b n r
  ·rw [n] at r;cases r
 have hm:∀ b u,H b=some u->¬ TR (some u)->b≠x:=λb u q nm z=>by subst z;rw [q] at mu;exact nm mu
 refine ⟨λb u q n _ _=>k b u (hb b n) q,λb u q n _ _=>⟨u.slots,k b u (hb b n) q⟩,λb u q n _=>by rw [xX (hx b n)];exact n,λb u q _=>?_,
  λb xs q=>by rw [xX (hm b _ q λz=>z)];exact q,λb u xs q=>by rw [xX (hm b _ q λz=>z)];exact q,λb ps q=>⟨#[],by rw [xX (hm b _ q λz=>z),q];simp⟩⟩
 by_cases Qy:b=e
 ·subst Qy;exact Rq
 ·exact ⟨u,k b u Qy q⟩
end
def T5 (h:Heap)(H:Hp):List Addr:=(List.range h.objs.size).filter λa=>(H a).isSome
def lF (h:Heap)(H:Hp):Heap:=PySem.W.hideAll h (T5 h H)
theorem vF (h:Heap)(H:Hp):(lF h H).objs.size=h.objs.size:=PySem.W.hideAll_size _ _
theorem LJ {h:Heap}{H:Hp}{b:Addr}{o:Obj}(e:h.get? b=some o)(n:H b=none):(lF h H).get? b=some o:=
 PySem.W.hideAll_get _ e λhm=>by
  have q:(H b).isSome=true:=(List.mem_filter.mp hm).2;rw [n] at q;simp at q
theorem NH {h:Heap}{H:Hp}{b:Addr}{o:Obj}(e:(lF h H).get? b=some o):h.get? b=some o/\H b=none:=by
 have e':h.get? b=some o:=PySem.W.of_hideAll (T5 h H) e;refine ⟨e',?_⟩;cases q:H b with
 | none=>rfl
 | some x=>
  have hm:b∈T5 h H:=List.mem_filter.mpr ⟨zn.mpr (Heap.lt_size e'),by simp [q]⟩;have z:(lF h H).get? b=none:=PySem.W.hideAll_none (T5 h H) hm;rw [z] at e;cases e
def eB (g h:Heap)(L:Addr):List (Addr×Obj):=(List.range h.objs.size).filterMap λa=>if a=L\/(g.get? a).isSome=true then none else (h.get? a).map λo=>(a,o)
theorem dm {g h:Heap}{L a:Addr}{o:Obj}(h1:a≠L)(h2:g.get? a=none)(h3:h.get? a=some o):(a,o)∈eB g h L:=
 yb.mpr ⟨a,zn.mpr (Heap.lt_size h3),by simp [h1,h2,h3]⟩
theorem j5 {g h:Heap}{L:Addr}{p:Addr×Obj}(hp:p∈eB g h L):p.1≠L/\g.get? p.1=none/\h.get? p.1=some p.2:=by
 obtain ⟨b,_,e⟩:=yb.mp hp;split at e
 ·cases e
 ·rename_i hn;cases q:h.get? b with
  | none=>rw [q] at e;simp at e
  | some u=>
   rw [q] at e;simp only [yf,Option.some.injEq] at e;subst e;refine ⟨λz=>hn (.inl z),?_,q⟩;show g.get? b=none;cases r:g.get? b with
   | none=>rfl
   | some v=>exact (hn (.inr (by simp [r]))).elim
def rest (g h:Heap)(L d:Addr):List (Addr×Obj):=(eB g h L).filter λp=>decide (p.1≠d)
theorem j6 {g h:Heap}{L:Addr}:News g L h (eB g h L):=λp hp=>let ⟨a,b,c⟩:=j5 hp;⟨c,a,b⟩
structure Mod (K:PySem.W.Frag) (mg:Str->Option Value) (base:Heap):Prop where
 WK:K.In base
 glob:base.Ns mainGlobals mg
 blt:∃ mb,base.Ns builtinsNs mb/\∀ x:Str,x ≠ "__name__" -> mb x=bootBuiltins x
 nolimit:base.NoLimit
structure Cx where
 prog:Program
 w:World
 K:PySem.W.Frag
 mg:Str->Option Value
 base:Heap
 A:Around
 N:List Str
 cO:Shared
 vR:Hp
 env:Env
 outer:List Env
 stack:List Env
 ex:List Addr
 fn:Str->Bool
 calm:Bool
 pn:List (Addr×Obj)
 xe:Value->Shared->Prop
def vY (l:List Env):List Addr:=l.filterMap (·.frame)
abbrev Cx.fs (X:Cx):List Addr:=vY X.outer
def UW (sc:Scope)(x:Str):Prop:=sc.names.lookup x=some .local\/sc.names.lookup x=some .cell\/sc.names.lookup x=some .free
def Loc (sc:Scope)(x:Str):Prop:=sc.names.lookup x=some .local\/sc.names.lookup x=some .cell
def Look (env:Env)(h:Heap)(m:Str->Option Value)(x:Str)(u:Value):Prop:=
 (env.kindOf x=some .local/\m x=some u)\/((env.kindOf x=some .cell\/env.kindOf x=some .free)/\∃ c,env.cells.lookup x=some c/\h.IsCell c (some u))
structure Cx.Ok (X:Cx):Prop where
 mod:Mod X.K X.mg X.base
 kind:X.env.scope.kind=.function
 glob:X.env.globals=mainGlobals
 blt:X.env.builtins=builtinsNs
 above:X.cO.heap.objs.size<=X.env.locals
 inj:∀ x y c,X.env.cells.lookup x=some c->X.env.cells.lookup y=some c->x=y
 has:∀ x,(X.env.kindOf x=some .cell\/X.env.kindOf x=some .free)->∃ c,X.env.cells.lookup x=some c
 Tp:∀ x c,X.fn x=true->X.env.cells.lookup x=some c->X.cO.heap.objs.size<=c
 hd:X.calm=true->X.A.handled=none
 frames:X.A.frames=some X.stack
 M8:X.stack=X.outer\/(X.stack=X.env::X.outer/\X.env.frame=some X.env.locals)
 ZZ:∀ b∈X.ex,b≠X.env.locals/\∀ x c,X.env.cells.lookup x=some c->c≠b
 bs:∀ b o,X.base.get? b=some o->X.cO.heap.get? b=some o/\X.vR b=none
 Mq:X.base.objs.size<=X.cO.heap.objs.size
 Lk:∀ b o,X.base.get? b=some o->b ∉ X.ex
 N9:∀ b∈X.ex,b ∉ X.fs
 i0:X.cO.heap.FunFrames X.base X.outer
 QH:∀ b∈X.fs,X.vR b=none
structure Inv (X:Cx) (af:List (Addr×Obj)) (σ:List (Option V)) (H:Hp) (s:Shared):Prop where
 ok:X.Ok
 os:s.os=X.cO.os
 bare:AllBare s.gens
 base:Un X.fs X.ex X.vR H X.cO.heap s.heap
 loc:∃ m,s.heap.Ns X.env.locals m/\∀ (i:Nat) (x:Str) (v:V),X.N[i]?=some x->σ[i]?=some (some v)->UW X.env.scope x->∃ u,RelV v u/\Look X.env s.heap m x u
 cell:∀ x c,X.env.cells.lookup x=some c->∃ v,s.heap.IsCell c v
 free:H X.env.locals=none
 fH:∀ x c,X.env.cells.lookup x=some c->H c=none
 pin:∀ p∈X.pn++af,s.heap.get? p.1=some p.2/\H p.1=none/\p.1≠X.env.locals/\p.1 ∉ X.fs/\∀ v,p.2.data≠.cell v
 aY:fZ X.prog X.w H s.heap
 len:σ.length=X.N.length
section
variable {X:Cx}{af:List (Addr×Obj)}{σ:List (Option V)}{H H':Hp}{s:Shared}{h':Heap}
theorem Cx.Ok.Wz (ok:X.Ok){b:Addr}{o:Obj}(e:X.base.get? b=some o):b ∉ X.fs:=λhb=>by
 have:=(ok.i0.mem hb).1;rw [e] at this;cases this
theorem Inv.bs (I:Inv X af σ H s):∀ b o,X.base.get? b=some o->s.heap.get? b=some o/\H b=none:=λb o e=>
 ⟨I.base.keep b o (I.ok.bs b o e).1 (I.ok.bs b o e).2 (I.ok.Wz e) (I.ok.Lk b o e),I.base.free b o (I.ok.bs b o e).1 (I.ok.bs b o e).2 (I.ok.Lk b o e)⟩
theorem Inv.bk (I:Inv X af σ H s):∀ b o,X.base.get? b=some o->s.heap.get? b=some o:=λb o e=>(I.bs b o e).1
theorem Inv.mod (I:Inv X af σ H s):Mod X.K X.mg X.base:=I.ok.mod
theorem Inv.oE (I:Inv X af σ H s):X.K.In s.heap:=I.ok.mod.WK.keeps I.bk
theorem Inv.nolimit (I:Inv X af σ H s):s.heap.NoLimit:=I.ok.mod.nolimit.keeps I.bk
theorem Inv.fr (I:Inv X af σ H s):∃ m,Fr X.base X.env.locals s.heap m:=
 let ⟨m,hn,_⟩:=I.loc
 ⟨m,hn,I.bk,zz I.ok.Mq I.ok.above⟩
theorem Inv.lt (I:Inv X af σ H s):X.env.locals < s.heap.objs.size:=let ⟨_,hn,_⟩:=I.loc;hn.lt
theorem Inv.sz (I:Inv X af σ H s):X.cO.heap.objs.size<=s.heap.objs.size:=zz I.ok.above (xK I.lt)
theorem Inv.R7 (I:Inv X af σ H s){a:Addr}(h:s.heap.objs.size<=a):a ∉ X.fs:=λhb=>by
 obtain ⟨_,o,ho,_⟩:=I.ok.i0.mem hb;exact absurd (zS (Heap.lt_size ho) (zz I.sz h)) (yK _)
theorem Inv.QT (I:Inv X af σ H s):∀ x c,X.env.cells.lookup x=some c->c≠X.env.locals:=λx c e z=>by
 obtain ⟨v,o,ho,hd⟩:=I.cell x c e;obtain ⟨m,⟨o',es,ep,pX,N4,_⟩,_⟩:=I.loc;rw [z,pX] at ho;cases ho;rw [N4] at hd;cases hd
theorem Inv.i0 (I:Inv X af σ H s):s.heap.FunFrames X.base X.outer:=by
 have all:∀ (l:List Env),(∀ b∈vY l,b∈X.fs)->X.cO.heap.FunFrames X.base l->s.heap.FunFrames X.base l:=by
  intro l;induction l with
  | nil=>intro _ _;trivial
  | cons env r ih=>
   intro hs hl;obtain ⟨hk,⟨L,o,hf,hn,ho,hd⟩,hr⟩:=hl;have hL:L∈X.fs:=hs L (by unfold vY;rw [yj,hf];exact yN);obtain ⟨sl,e⟩:=I.base.slot L o ho (I.ok.QH L hL) hL λz=>I.ok.N9 L z hL;exact ⟨hk,⟨L,_,hf,hn,e,hd⟩,ih (λb hb=>hs b (by unfold vY;rw [yj,hf];exact zw _ hb)) hr⟩
 exact all X.outer (λ_ hb=>hb) I.ok.i0
theorem Inv.stack (I:Inv X af σ H s):s.heap.FunFrames X.base X.stack:=by
 rcases I.ok.M8 with e | ⟨e,hf⟩
 ·rw [e];exact I.i0
 ·rw [e];obtain ⟨m,hn,_⟩:=I.loc;refine .cons (by rw [I.ok.kind];decide) hf hn ?_ I.i0;exact Heap.get?_none_of_le (zz I.ok.Mq I.ok.above)
theorem Inv.jO (I:Inv X af σ H s):∀ b∈vY X.stack,b∈X.env.locals::X.fs:=λb hb=>by
 rcases I.ok.M8 with e | ⟨e,hf⟩
 ·rw [e] at hb;exact zw _ hb
 ·rw [e] at hb;unfold vY at hb;rw [yj,hf] at hb;exact hb
theorem Inv.m9 (I:Inv X af σ H s):∀ b∈vY X.stack,H b=none:=λb hb=>by
 rcases zK.mp (I.jO b hb) with e | hb
 ·rw [e];exact I.free
 ·obtain ⟨_,o,ho,_⟩:=I.ok.i0.mem hb;exact I.base.free b o ho (I.ok.QH b hb) λz=>I.ok.N9 b z hb
theorem Inv.step {g':Array GenState}{t':Nat}{d':Drawn}{ch:List Addr}(I:Inv X af σ H s)
  (MU:∀ b∈ch,(b∈X.ex\/X.cO.heap.objs.size<=b)/\b≠X.env.locals/\(∀ x c,X.env.cells.lookup x=some c->c≠b)/\∀ p∈X.pn++af,p.1≠b)
  (keep:∀ b o,b≠X.env.locals->b ∉ X.fs->b ∉ ch->s.heap.get? b=some o->H b=none->h'.get? b=some o)
  (slot:∀ b o,b≠X.env.locals->b∈X.fs->b ∉ ch->s.heap.get? b=some o->H b=none->∃ sl,h'.get? b=some { o with slots:=sl }) (free:∀ b o,b ∉ ch->s.heap.get? b=some o->H b=none->H' b=none)
  (there:∀ b o,b ∉ ch->s.heap.get? b=some o->∃ o',h'.get? b=some o')
  (aQ:∀ b xs,H b=some (.tup xs)->H' b=some (.tup xs)) (lG:∀ b o u,H b=some (.nN o u)->H' b=some (.nN o u)) (kY:∀ b ps,H b=some (.ju ps)->∃ more,H' b=some (.ju (ps++more)))
  (ns:∀ m,s.heap.Ns X.env.locals m->h'.Ns X.env.locals m) (aY:fZ X.prog X.w H' h') (hg:AllBare g') :
  Inv X af σ H' { s with heap:=h',gens:=g',drawn:=d',toks:=t' }:=by
 have YU:∀ b o,X.cO.heap.get? b=some o->b≠X.env.locals:=λb o e=>zW (zS (Heap.lt_size e) I.ok.above);have Ln:∀ b o,X.cO.heap.get? b=some o->b ∉ X.ex->b ∉ ch:=λb o e hx hb=>by
  rcases (MU b hb).1 with z | z
  ·exact hx z
  ·exact absurd (zS (Heap.lt_size e) z) (yK _)
 have cellK:∀ x c,X.env.cells.lookup x=some c->∀ v,s.heap.IsCell c v->h'.IsCell c v:=λx c e v ⟨o,ho,hd⟩=>by
  have nG:c ∉ ch:=λz=>(MU c z).2.2.1 x c e rfl;by_cases hc:c∈X.fs
  ·obtain ⟨sl,q⟩:=slot c o (I.QT x c e) hc nG ho (I.fH x c e);exact ⟨_,q,hd⟩
  ·exact ⟨o,keep c o (I.QT x c e) hc nG ho (I.fH x c e),hd⟩
 refine ⟨I.ok,I.os,hg,⟨λb o e n hb hx=>?_,λb o e n hb hx=>?_,λb o e n hx=>?_,λb o e hx=>?_,λb xs e=>aQ b xs (I.base.aQ b xs e),λb o xs e=>lG b o xs (I.base.lG b o xs e),λb ps e=>?_⟩,?_,λx c e=>?_,?_,λx c e=>?_,λp hp=>?_,aY,I.len⟩
 ·exact keep b o (YU b o e) hb (Ln b o e hx) (I.base.keep b o e n hb hx) (I.base.free b o e n hx)
 ·obtain ⟨sl,e1⟩:=I.base.slot b o e n hb hx;obtain ⟨sl',e2⟩:=slot b _ (YU b o e) hb (Ln b o e hx) e1 (I.base.free b o e n hx);exact ⟨sl',e2⟩
 ·obtain ⟨o',e1⟩:=I.base.there b o e hx;exact free b o' (Ln b o e hx) e1 (I.base.free b o e n hx)
 ·obtain ⟨o',e1⟩:=I.base.there b o e hx;exact there b o' (Ln b o e hx) e1
 ·obtain ⟨m1,e1⟩:=I.base.kY b ps e;obtain ⟨m2,e2⟩:=kY b _ e1;exact ⟨m1++m2,by rw [e2,Array.append_assoc]⟩
 ·obtain ⟨m,hn,hl⟩:=I.loc;refine ⟨m,ns m hn,λi x v e1 e2 e3=>?_⟩;obtain ⟨u,r,l⟩:=hl i x v e1 e2 e3;refine ⟨u,r,?_⟩;rcases l with l | ⟨k,c,e,z⟩
  ·exact .inl l
  ·exact .inr ⟨k,c,e,cellK x c e _ z⟩
 ·obtain ⟨v,z⟩:=I.cell x c e;exact ⟨v,cellK x c e v z⟩
 ·obtain ⟨m,⟨o,_,_,ho,_⟩,_⟩:=I.loc;exact free _ o (λz=>(MU _ z).2.1 rfl) ho I.free
 ·obtain ⟨v,o,ho,hd⟩:=I.cell x c e;exact free c o (λz=>(MU c z).2.2.1 x c e rfl) ho (I.fH x c e)
 ·obtain ⟨e,n,ne,nf,d⟩:=I.pin p hp;have nG:p.1 ∉ ch:=λz=>(MU p.1 z).2.2.2 p hp rfl;exact ⟨keep p.1 p.2 ne nf nG e n,free p.1 p.2 nG e n,ne,nf,d⟩
theorem Inv.un {t':Nat}(I:Inv X af σ H s)(u:Un X.fs [] H H' s.heap h')(aY:fZ X.prog X.w H' h'):Inv X af σ H' { s with heap:=h',toks:=t' }:=by
 obtain ⟨m,⟨o,es,ep,ho,r⟩,_⟩:=id I.loc;obtain ⟨sl,hL⟩:=u.any ho I.free (by simp);exact I.step (g':=s.gens) (d':=s.drawn) (ch:=[]) (λ_ z=>nomatch z) (λb o _ hb _ e n=>u.keep b o e n hb (by simp)) (λb o _ hb _ e n=>u.slot b o e n hb (by simp)) (λb o _ e n=>u.free b o e n (by simp)) (λb o _ e=>u.there b o e (by simp)) u.aQ u.lG u.kY (λm' hm=>by
  obtain ⟨o',jB,QJ,pX,r'⟩:=hm;rw [ho] at pX;cases pX;exact ⟨_,jB,QJ,hL,r'⟩) aY I.bare
theorem Inv.call {g':Array GenState}{t':Nat}{d':Drawn}{ch:List Addr}(I:Inv X af σ H s)(u:Un (vY X.stack) ch H H' s.heap h')(aY:fZ X.prog X.w H' h')(hg:AllBare g')
  (MU:∀ b∈ch,(b∈X.ex\/X.cO.heap.objs.size<=b)/\b≠X.env.locals/\(∀ x c,X.env.cells.lookup x=some c->c≠b)/\∀ p∈X.pn++af,p.1≠b) :
  Inv X af σ H' { s with heap:=h',gens:=g',drawn:=d',toks:=t' }:=by
 obtain ⟨m,⟨o,es,ep,ho,r⟩,_⟩:=id I.loc;obtain ⟨sl,hL⟩:=u.any ho I.free λz=>(MU _ z).2.1 rfl;exact I.step (ch:=ch) MU (λb o hL hb hc e n=>u.keep b o e n (λz=>(zK.mp (I.jO b z)).elim hL hb) hc) (λb o _ _ hc e n=>u.any e n hc) (λb o hc e n=>u.free b o e n hc) (λb o hc e=>u.there b o e hc) u.aQ u.lG u.kY (λm' hm=>by
  obtain ⟨o',jB,QJ,pX,r'⟩:=hm;rw [ho] at pX;cases pX;exact ⟨_,jB,QJ,hL,r'⟩) aY hg
theorem Inv.turned {t':Nat}{it:Addr}(I:Inv X af σ H s)(k:∀ b o,b≠it->s.heap.get? b=some o->h'.get? b=some o)(hn:H it=none)(hL:it≠X.env.locals)
  (h1:it∈X.ex\/X.cO.heap.objs.size<=it) (h2:∀ x c,X.env.cells.lookup x=some c->c≠it) (h3:∀ p∈X.pn++af,p.1≠it):Inv X af σ H { s with heap:=h',toks:=t' }:=by
 have YT:∀ b u,H b=some u->b≠it:=λb u e z=>by rw [z,hn] at e;cases e
 refine I.step (g':=s.gens) (d':=s.drawn) (ch:=[it]) (λb hb=>?_) (λb o _ _ hc e _=>k b o (λz=>hc (by simp [z])) e) (λb o _ _ hc e _=>⟨o.slots,k b o (λz=>hc (by simp [z])) e⟩) (λ_ _ _ _ n=>n)
  (λb o hc e=>⟨o,k b o (λz=>hc (by simp [z])) e⟩) (λ_ _ e=>e) (λ_ _ _ e=>e) (λb ps e=>⟨#[],by rw [e];simp⟩) (λm hm=>?_) (λb u e=>?_) I.bare
 ·have e:b=it:=by simpa using hb
  subst e;exact ⟨h1,hL,h2,h3⟩
 ·obtain ⟨o,es,ep,ho,r⟩:=hm;exact ⟨o,es,ep,k _ o (Ne.symm hL) ho,r⟩
 ·refine (I.aY b u e).fh (λc v hc q=>k c v ?_ q) (λ_ q=>q) λ_ _ q=>q;rcases hc with z | z
  ·rw [z];exact YT b u e
  ·exact YT c _ z
theorem Inv.tok (I:Inv X af σ H s)(t:Nat):Inv X af σ H { s with toks:=t }:=I.un (h':=s.heap) (t':=t) Un.refl I.aY
theorem Inv.kept {t':Nat}(I:Inv X af σ H s)(k:∀ b u,s.heap.get? b=some u->h'.get? b=some u):Inv X af σ H { s with heap:=h',toks:=t' }:=I.un (Un.kept k) (I.aY.kept k)
theorem Inv.laid {a:Addr}{o:HO}{t':Nat}(I:Inv X af σ H s)(k:∀ b u,s.heap.get? b=some u->h'.get? b=some u)(hp:s.heap.objs.size<=a)(new:aW X.prog X.w (upd H a o) h' a o) :
  Inv X af σ (upd H a o) { s with heap:=h',toks:=t' }:=I.un (Un.laid k hp (I.aY.fresh hp)) (I.aY.laid k hp new)
theorem Inv.write {x e:Addr}{o:HO}{t':Nat}(I:Inv X af σ H s)(mu:TR (H x))(he:e=x\/H e=some (.own x))(k:∀ b u,b≠e->s.heap.get? b=some u->h'.get? b=some u)(Rq:∃ u,h'.get? e=some u)
  (new:aW X.prog X.w (upd H x o) h' x o):Inv X af σ (upd H x o) { s with heap:=h',toks:=t' }:=I.un (Un.write mu he k Rq) (I.aY.write mu he k Rq new)
theorem Inv.cB {eO:List (Addr×Obj)}(I:Inv X af σ H s)(h:∀ p∈eO,s.heap.get? p.1=some p.2/\H p.1=none/\p.1≠X.env.locals/\p.1 ∉ X.fs/\∀ v,p.2.data≠.cell v):Inv X eO σ H s:=
 ⟨I.ok,I.os,I.bare,I.base,I.loc,I.cell,I.free,I.fH,λp hp=>(zT.mp hp).elim (λz=>I.pin p (zX _ z)) (h p),I.aY,I.len⟩
theorem pM {N:List Str}(hN:N.Nodup){i j:Nat}{x:Str}(a:N[i]?=some x)(b:N[j]?=some x):i=j:=by obtain ⟨h1,e1⟩:=zC.mp a;obtain ⟨h2,e2⟩:=zC.mp b;exact (List.getElem_inj hN).mp (e1.trans e2.symm)
def NK (sc:Scope)(x:Str):Bool:=match sc.names.lookup x with | some .local=>true | some .cell=>true | _=>false
theorem tV {sc:Scope}{x:Str}(h:NK sc x=true):Loc sc x:=by
 unfold NK at h;unfold Loc
 revert h
 cases sc.names.lookup x with
 | none=>intro h;cases h
 | some k=>cases k <;> intro h <;> first | exact .inl rfl | exact .inr rfl | cases h
def mL (X:Cx)(x:Str):Bool:=X.fn x || (match X.env.scope.names.lookup x with | some .local=>true | _=>false)
theorem LW {X:Cx}{x:Str}(h:mL X x=true):X.fn x=true\/X.env.scope.names.lookup x=some .local:=by
 unfold mL at h;cases e:X.fn x with
 | true=>exact .inl rfl
 | false=>
  rw [e,Bool.false_or] at h
  revert h
  cases X.env.scope.names.lookup x with
  | none=>intro h;cases h
  | some k=>cases k <;> intro h <;> first | exact .inr rfl | cases h
def O3 (sc:Scope)(x:Str):Bool:=match sc.names.lookup x with | some .local=>true | some .cell=>true | some .free=>true | _=>false
theorem M0 {sc:Scope}{x:Str}(h:O3 sc x=true):UW sc x:=by
 unfold O3 at h;unfold UW
 revert h
 cases sc.names.lookup x with
 | none=>intro h;cases h
 | some k=>cases k <;> intro h <;> first | exact .inl rfl | exact .inr (.inl rfl) | exact .inr (.inr rfl) | cases h
theorem uM {M:Model}{A:Around}{E:Value->Shared->Prop}{i:Nat}{x:Str}{v:V}{u:Value}{Q:Unit->Shared->Prop}(I:Inv X af σ H s)(hN:X.N.Nodup)(hi:X.N[i]?=some x)(hx:Loc X.env.scope x)(r:RelV v u)
  (h:∀ s',Inv X af (σ.set i (some v)) H s'->(∃ a,Heap.SameBut a s.heap s'.heap/\(a=X.env.locals\/X.env.cells.lookup x=some a))->Q () s') (hf:mL X x=true:=by rfl):wpAny M A (storeName X.env x u) Q E s:=by
 have hf:=LW hf;obtain ⟨m,hn,hl⟩:=id I.loc;have XJ:(X.env.scope.kind == .class || (X.env.scope.kind == .module && X.env.locals != X.env.globals))=false:=by rw [I.ok.kind];rfl
 have SR:i < σ.length:=by rw [I.len];exact (zC.mp hi).1
 have QT:=I.QT;have tracked:∀ {a:Addr}{h':Heap},(∃ o,s.heap.get? a=some o/\H a=none)->Heap.SameBut a s.heap h'->fZ X.prog X.w H h':=λ{a h'} ha hs b ob e=>by
  obtain ⟨_,_,OD⟩:=ha;refine (I.aY b ob e).fh (λc w' hc q=>(hs.2 c ?_).trans q) (λ_ q=>q) λ_ _ q=>q;rintro rfl;rcases hc with rfl | hc
  ·rw [OD] at e;cases e
  ·rw [OD] at hc;cases hc
 rcases hx with hk | hk
 ·refine wpAny_storeName_local hk hn (λh' Zj hs=>?_) XJ;obtain ⟨oL,_,_,hoL,_⟩:=id hn;refine h _ ⟨I.ok,I.os,I.bare,⟨λb o e n hb hx=>?_,λb o e n hb hx=>?_,I.base.free,λb o e hx=>?_,I.base.aQ,I.base.lG,I.base.kY⟩,⟨_,Zj,λj y v' e1 e2 e3=>?_⟩,λy c e=>?_,I.free,I.fH,λp hp=>?_,tracked ⟨oL,hoL,I.free⟩ hs,by simpa using I.len⟩ ⟨_,hs,.inl rfl⟩
  ·exact (hs.2 b (zW (zS (Heap.lt_size e) I.ok.above))).trans (I.base.keep b o e n hb hx)
  ·obtain ⟨sl,e1⟩:=I.base.slot b o e n hb hx;exact ⟨sl,(hs.2 b (zW (zS (Heap.lt_size e) I.ok.above))).trans e1⟩
  ·obtain ⟨o',e1⟩:=I.base.there b o e hx;exact ⟨o',(hs.2 b (zW (zS (Heap.lt_size e) I.ok.above))).trans e1⟩
  ·by_cases hj:j=i
   ·subst hj;rw [hi] at e1;cases e1;rw [List.getElem?_set_self SR] at e2;cases e2;exact ⟨u,r,.inl ⟨hk,by simp⟩⟩
   ·rw [List.getElem?_set_ne (Ne.symm hj)] at e2;obtain ⟨u',r',q⟩:=hl j y v' e1 e2 e3;refine ⟨u',r',?_⟩;rcases q with ⟨k,e⟩ | ⟨k,c,e,z⟩
    ·refine .inl ⟨k,?_⟩;have:y≠x:=λe=>hj (pM hN e1 (e ▸ hi));simp [this,e]
    ·exact .inr ⟨k,c,e,z.sameBut hs (QT y c e)⟩
  ·obtain ⟨w',z⟩:=I.cell y c e;exact ⟨w',z.sameBut hs (QT y c e)⟩
  ·obtain ⟨e,n,ne,nf,d⟩:=I.pin p hp;exact ⟨(hs.2 p.1 ne).trans e,n,ne,nf,d⟩
 ·have XD:X.fn x=true:=by
   rcases hf with z | z
   ·exact z
   ·rw [z] at hk;cases hk
  obtain ⟨c,hc⟩:=I.ok.has x (.inl hk);obtain ⟨w',z⟩:=I.cell x c hc;refine wpAny_storeName_cell I.ok.kind hk hc z (λh' S1 hs=>?_);obtain ⟨oc,Ql,Xk⟩:=id z;refine h { s with heap:=h' } ⟨I.ok,I.os,I.bare,⟨λb o e n hb hx=>?_,λb o e n hb hx=>?_,I.base.free,λb o e hx=>?_,I.base.aQ,I.base.lG,I.base.kY⟩,⟨m,hn.sameBut hs (Ne.symm (QT x c hc)),λj y v' e1 e2 e3=>?_⟩,λy c' e=>?_,I.free,I.fH,λp hp=>?_,tracked ⟨oc,Ql,I.fH x c hc⟩ hs,by simpa using I.len⟩ ⟨c,hs,.inr hc⟩
  ·exact (hs.2 b (zW (zS (Heap.lt_size e) (I.ok.Tp x c XD hc)))).trans (I.base.keep b o e n hb hx)
  ·obtain ⟨sl,e1⟩:=I.base.slot b o e n hb hx;exact ⟨sl,(hs.2 b (zW (zS (Heap.lt_size e) (I.ok.Tp x c XD hc)))).trans e1⟩
  ·obtain ⟨o',e1⟩:=I.base.there b o e hx;exact ⟨o',(hs.2 b (zW (zS (Heap.lt_size e) (I.ok.Tp x c XD hc)))).trans e1⟩
  ·by_cases hj:j=i
   ·subst hj;rw [hi] at e1;cases e1;rw [List.getElem?_set_self SR] at e2;cases e2;exact ⟨u,r,.inr ⟨.inl hk,c,hc,S1⟩⟩
   ·rw [List.getElem?_set_ne (Ne.symm hj)] at e2;obtain ⟨u',r',q⟩:=hl j y v' e1 e2 e3;refine ⟨u',r',?_⟩;rcases q with q | ⟨k,c',e,z'⟩
    ·exact .inl q
    ·refine .inr ⟨k,c',e,z'.sameBut hs ?_⟩;rintro rfl;exact hj (pM hN e1 (I.ok.inj _ _ _ e hc ▸ hi))
  ·by_cases Zw:c'=c
   ·subst Zw;exact ⟨_,S1⟩
   ·obtain ⟨w2,z2⟩:=I.cell y c' e;exact ⟨w2,z2.sameBut hs Zw⟩
  ·obtain ⟨e,n,ne,nf,d⟩:=I.pin p hp;refine ⟨(hs.2 p.1 ?_).trans e,n,ne,nf,d⟩;intro q;rw [q,Ql] at e;have q':oc=p.2:=Option.some.inj e;exact d w' (by rw [<-q'];exact Xk)
theorem o6 {M:Model}{A:Around}{E:Value->Shared->Prop}{i:Nat}{x:Str}{v:V}{u:Value}{Q:Unit->Shared->Prop}(I:Inv X af σ H s)(hN:X.N.Nodup)(hi:X.N[i]?=some x)(hx:Loc X.env.scope x)(r:RelV v u)
  (h:∀ s',Inv X af (σ.set i (some v)) H s'->Q () s') (hf:mL X x=true:=by rfl):wpAny M A (storeName X.env x u) Q E s:=
 uM I hN hi hx r (λs' I' _=>h s' I') hf
theorem Inv.To {s':Shared}{ch:List Addr}(I:Inv X af σ H s)(ho:s'.os=s.os)(u:Un (vY X.stack) ch H H' s.heap s'.heap)(aY:fZ X.prog X.w H' s'.heap)(hg:AllBare s'.gens)
  (MU:∀ b∈ch,(b∈X.ex\/X.cO.heap.objs.size<=b)/\b≠X.env.locals/\(∀ x c,X.env.cells.lookup x=some c->c≠b)/\∀ p∈X.pn++af,p.1≠b):Inv X af σ H' s':=by
 obtain ⟨h',g',d',t',o'⟩:=s';have e:o'=s.os:=ho;subst e;exact I.call (g':=g') (t':=t') (d':=d') u aY hg MU
end
abbrev XK:=Value->Option Addr->Hp->Prop
abbrev St:=List (Option V)
abbrev VK:=V->Hp->Prop
abbrev TE:=St->Hp->VK->Prop
abbrev TT:=St->Hp->(Bool->Hp->Prop)->Prop
abbrev TA:=St->Hp->(List V->Hp->Prop)->Prop
structure Ends where
 nx:St->Hp->Prop
 rt:VK
 bk:St->Hp->Prop:=λ_ _=>False
 ct:St->Hp->Prop:=λ_ _=>False
abbrev Ends.go (D:Ends)(n:St->Hp->Prop):Ends:={ D with nx:=n }
abbrev Ends.lp (D:Ends)(n:St->Hp->Prop):Ends:={ D with nx:=n,ct:=n,bk:=D.nx }
abbrev TS:=Ends->St->Hp->Prop
def EP (X:Cx)(af:List (Addr×Obj))(σ:St)(Q:VK)(u:Value)(s':Shared):Prop:=∃ v H',Inv X af σ H' s'/\RelV v u/\Q v H'
def TP (X:Cx)(af:List (Addr×Obj))(σ:St)(Q:Bool->Hp->Prop)(b:Bool)(s':Shared):Prop:=∃ H',Inv X af σ H' s'/\Q b H'
def AP (X:Cx)(af:List (Addr×Obj))(σ:St)(Q:List V->Hp->Prop)(us:List Value)(s':Shared):Prop:=∃ vs H',Inv X af σ H' s'/\Vals vs us/\Q vs H'
def SP (X:Cx)(af:List (Addr×Obj))(D:Ends)(f:Flow)(s':Shared):Prop:=
 match f with
 | .next=>∃ bu H',Inv X af bu H' s'/\D.nx bu H'
 | .brk=>∃ bu H',Inv X af bu H' s'/\D.bk bu H'
 | .cont=>∃ bu H',Inv X af bu H' s'/\D.ct bu H'
 | .ret u=>∃ v bu H',Inv X af bu H' s'/\RelV v u/\D.rt v H'
def PE (X:Cx)(e:Expr)(t:TE):Prop:=
 ∀ (af:List (Addr×Obj)) (s:Shared) (σ:St) (H:Hp) (Q:VK),Inv X af σ H s->t σ H Q->wpAny (model X.prog X.w) X.A (eval e X.env) (EP X af σ Q) X.xe s
def PT (X:Cx)(e:Expr)(t:TT):Prop:=
 ∀ (af:List (Addr×Obj)) (s:Shared) (σ:St) (H:Hp) (Q:Bool->Hp->Prop),Inv X af σ H s->t σ H Q->wpAny (model X.prog X.w) X.A (isTrue e X.env (eval e X.env)) (TP X af σ Q) X.xe s
def PW (X:Cx)(e:Expr)(t:TT):Prop:=
 ∀ (whole:Sem Value) (af:List (Addr×Obj)) (s:Shared) (σ:St) (H:Hp) (Q:Bool->Hp->Prop),Inv X af σ H s->t σ H Q->wpAny (model X.prog X.w) X.A (isTrue e X.env whole) (TP X af σ Q) X.xe s
theorem PW.pt {X:Cx}{e:Expr}{t:TT}(h:PW X e t):PT X e t:=h _
def PA (X:Cx)(es:List Expr)(t:TA):Prop:=
 ∀ (pos:Pos) (af:List (Addr×Obj)) (s:Shared) (σ:St) (H:Hp) (Q:List V->Hp->Prop),Inv X af σ H s->t σ H Q->wpAny (model X.prog X.w) X.A (spliced (backTo pos (starEach es X.env))) (AP X af σ Q) X.xe s
def PS (X:Cx)(st:Stmt)(t:TS):Prop:=
 ∀ (af:List (Addr×Obj)) (s:Shared) (σ:St) (H:Hp) (D:Ends),Inv X af σ H s->t D σ H->wpAny (model X.prog X.w) X.A (exec st X.env) (SP X af D) X.xe s
def mX (X:Cx)(st:List Stmt)(t:TS):Prop:=
 ∀ (af:List (Addr×Obj)) (s:Shared) (σ:St) (H:Hp) (D:Ends),Inv X af σ H s->t D σ H->wpAny (model X.prog X.w) X.A (execs st X.env) (SP X af D) X.xe s
theorem aZ {α:Type}{t:Sem α}{Q Q':α->Shared->Prop}{M:Model}{A:Around}{E:Value->Shared->Prop}{s:Shared}(h:wpAny M A t Q E s)(hQ:∀ a s,Q a s->Q' a s):wpAny M A t Q' E s:=wpAny_mono h hQ λ_ _ x=>x
section
variable {X:Cx}
def qY (i:Nat):TE:=fun σ H Q=>∃ v,σ[i]?=some (some v)/\Q v H
def tC (v:V):TE:=λ_ H Q=>Q v H
theorem PB {i:Nat}{x:Str}{pos:Pos}(hN:X.N[i]?=some x)(hv:UW X.env.scope x)(hd:(x == ("__debug__" : Str))=false:=by decide)(p5:(x == ("__classdict__" : Str))=false:=by decide):PE X (.Name x pos) (qY i):=by
 intro af s σ H Q I h;obtain ⟨v,e,h⟩:=h;obtain ⟨m,hn,hl⟩:=I.loc;obtain ⟨u,r,l⟩:=hl i x v hN e hv;have fin:EP X af σ Q u s:=⟨v,H,I,r,h⟩;rcases l with ⟨hk,hm⟩ | ⟨hk,c,hc,OF⟩
 ·exact wpAny_Name (wpAny_loadName_local I.ok.kind hk hn hm fin) hd
 ·rcases hk with hk | hk
  ·exact wpAny_Name (wpAny_loadName_cell I.ok.kind hk hc OF fin) hd
  ·exact wpAny_Name (wpAny_loadName_free I.ok.kind hk hc OF fin p5) hd
theorem xR {i j pos}:PE X (.Constant (.int i) j pos) (tC (.int i)):=λ_ _ _ H _ I h=>wpAny_Constant_int ⟨.int i,H,I.tok _,⟨_,rfl⟩,h⟩
theorem wV {b j pos}:PE X (.Constant (.bool b) j pos) (tC (.bl b)):=λ_ _ _ H _ I h=>Constant_bool ⟨.bl b,H,I,rfl,h⟩
theorem cG {j pos}:PE X (.Constant .none j pos) (tC .bD):=λ_ _ _ H _ I h=>Constant_none ⟨.bD,H,I,rfl,h⟩
theorem jY {x j pos}:PE X (.Constant (.str x) j pos) (tC (.str x)):=λ_ _ _ H _ I h=>Calls.Constant_str ⟨.str x,H,I.tok _,⟨_,rfl⟩,h⟩
def Gl (X:Cx)(x:Str):Prop:=X.env.kindOf x=some .globalImplicit
theorem tW {E:Value->Shared->Prop}{af:List (Addr×Obj)}{s:Shared}{σ:St}{H:Hp}{x:Str}{u:Value}{pos:Pos}{Q:Value->Shared->Prop}(I:Inv X af σ H s)(hg:Gl X x)(hm:X.mg x=some u)(h:Q u s)
  (hd:(x == ("__debug__" : Str))=false:=by decide):wpAny (model X.prog X.w) X.A (eval (.Name x pos) X.env) Q E s:=
 Calls.Name_function_global I.ok.kind hg (Calls.loadGlobal_global (by rw [I.ok.glob];exact I.mod.glob.keeps I.bk) hm h) hd
theorem cj {E:Value->Shared->Prop}{af:List (Addr×Obj)}{s:Shared}{σ:St}{H:Hp}{x:Str}{u:Value}{pos:Pos}{Q:Value->Shared->Prop}(I:Inv X af σ H s)(hg:Gl X x)(hm:X.mg x=none)(hv:bootBuiltins x=some u)(h:Q u s)
  (hn:x ≠ "__name__" := by decide) (hd:(x == ("__debug__" : Str))=false:=by decide):wpAny (model X.prog X.w) X.A (eval (.Name x pos) X.env) Q E s:=by
 obtain ⟨mb,h1,h2⟩:=I.mod.blt;exact Calls.Name_function_global I.ok.kind hg (Calls.loadGlobal_builtin (by rw [I.ok.glob];exact I.mod.glob.keeps I.bk) hm (by rw [I.ok.blt];exact h1.keeps I.bk) ((h2 x hn).trans hv) h) hd
theorem nB {x:Str}{v:V}{u:Value}{pos:Pos}(hg:Gl X x)(hm:X.mg x=some u)(r:RelV v u)(hd:(x == ("__debug__" : Str))=false:=by decide):PE X (.Name x pos) (tC v):=
 λ_ _ _ H _ I h=>tW I hg hm ⟨v,H,I,r,h⟩ hd
theorem wY {x:Str}{v:V}{u:Value}{pos:Pos}(hg:Gl X x)(hm:X.mg x=none)(hv:bootBuiltins x=some u)(r:RelV v u)(hn:x ≠ "__name__" := by decide)(hd:(x == ("__debug__" : Str))=false:=by decide):PE X (.Name x pos) (tC v):=
 λ_ _ _ H _ I h=>cj I hg hm hv ⟨v,H,I,r,h⟩ hn hd
variable {a b:Expr}{ta tb:TE}{pos:Pos}
def PC (X:Cx)(op:CmpOp)(a b:Expr)(t:TE):Prop:=
 ∀ (af:List (Addr×Obj)) (s:Shared) (σ:St) (H:Hp) (Q:VK),Inv X af σ H s->t σ H Q ->
  wpAny (model X.prog X.w) X.A (eval a X.env) (λv aN=>wpAny (model X.prog X.w) X.A (eval b X.env) (λu jN=>wpAny (model X.prog X.w) X.A (compareOp op v u) (EP X af σ Q) X.xe jN) X.xe aN) X.xe s
def V9 (ta:TE):TE:=fun σ H Q=>ta σ H λx H1=>Q (.bl (decide (x=.bD))) H1
def RG (ta:TE):TE:=fun σ H Q=>ta σ H λx H1=>Q (.bl (!decide (x=.bD))) H1
theorem RelV.pL {x:V}{v:Value}(r:RelV x v):(v == Value.none)=decide (x=.bD):=by
 cases x with
 | bD=>cases r;rfl
 | bl _=>cases r;rfl
 | int _=>obtain ⟨t,rfl⟩:=r;rfl
 | str _=>obtain ⟨t,rfl⟩:=r;rfl
 | uw _=>obtain ⟨t,rfl⟩:=r;rfl
 | MY _=>obtain ⟨t,rfl⟩:=r;rfl
 | ref _=>cases r;rfl
 | ty _=>cases r;rfl
theorem cH {j pos'}(ha:PE X a ta):PC X .Is a (.Constant .none j pos') (V9 ta):=by intro af s σ H Q I h;refine aZ (ha af s σ H _ I h) λv s1 VX=>?_;obtain ⟨x,H1,I1,r1,q1⟩:=VX;exact Constant_none (is_none_gen ⟨.bl _,H1,I1,by rw [r1.pL];rfl,q1⟩)
theorem fU {j pos'}(ha:PE X a ta):PC X .IsNot a (.Constant .none j pos') (RG ta):=by intro af s σ H Q I h;refine aZ (ha af s σ H _ I h) λv s1 VW=>?_;obtain ⟨x,H1,I1,r1,q1⟩:=VW;exact Constant_none (isnot_none_gen ⟨.bl _,H1,I1,by rw [r1.pL];rfl,q1⟩)
def tB (t:TE):TT:=fun σ H Q=>t σ H λx H1=>∃ c,x=.bl c/\Q c H1
theorem jZ {op:CmpOp}{t:TE}(h:PC X op a b t)(h1:behindInMarks op b=false:=by rfl):PE X (.Compare a [op] [b] pos) t:=λaf s σ H Q I hw=>wpAny_Compare1 (h af s σ H Q I hw) h1
theorem b9 {op:CmpOp}{t:TE}(h:PC X op a b t)(h1:behindInMarks op b=false:=by rfl):PT X (.Compare a [op] [b] pos) (tB t):=by intro af s σ H Q I hw;refine wpAny_isTrue_Compare1 (aZ (h af s σ H _ I hw) λv s1 h1=>aZ h1 λu s2 h2=>aZ h2 λc s3 VV=>?_) h1;obtain ⟨x,H1,I1,r1,q1⟩:=VV;obtain ⟨d,rfl,q⟩:=q1;cases r1;exact wpAny_truthy_bool ⟨H1,I1,q⟩
theorem wE {e:Expr}{t:TE}(h:PE X e t)(he:∀ whole,isTrue e X.env whole=(do let v <- whole;standAt e.pos;holding [v] (truthy v)):=by intro _;rfl):PT X e (tB t):=by intro af s σ H Q I hw;refine isTrue_plain (aZ (h af s σ H _ I hw) λv s1 VU=>?_) (he _);obtain ⟨x,H1,I1,r1,q1⟩:=VU;obtain ⟨d,rfl,q⟩:=q1;cases r1;exact wpAny_truthy_bool ⟨H1,I1,q⟩
variable {tA T7:TT}{rest:List Expr}
def KG (t u:TT):TT:=fun σ H Q=>t σ H λc H1=>if c=true then u σ H1 Q else Q false H1
def RE (t u:TT):TT:=fun σ H Q=>t σ H λc H1=>if c=true then Q true H1 else u σ H1 Q
def KA (t:TT):TT:=fun σ H Q=>t σ H λc H1=>Q (!c) H1
theorem dU (ha:PT X a tA):PW X (.BoolOp .And [a] pos) tA:=by
 intro wh af s σ H Q I h;refine isTrue_and (aZ (ha af s σ H Q I h) λc s1 e=>?_);cases c with
 | true=>exact isTrue_and_nil e
 | false=>exact e
theorem wc (ha:PT X a tA):PW X (.BoolOp .Or [a] pos) tA:=by
 intro wh af s σ H Q I h;refine isTrue_or (aZ (ha af s σ H Q I h) λc s1 e=>?_);cases c with
 | false=>exact isTrue_or_nil e
 | true=>exact e
theorem fk (ha:PT X a tA)(hb:PW X (.BoolOp .And (b::rest) pos) T7):PW X (.BoolOp .And (a::b::rest) pos) (KG tA T7):=by
 intro wh af s σ H Q I h;refine isTrue_and (aZ (ha af s σ H _ I h) λc s1 VT=>?_);obtain ⟨H1,I1,q1⟩:=VT;cases c with
 | true=>exact hb wh af s1 σ H1 Q I1 q1
 | false=>exact ⟨H1,I1,q1⟩
theorem wl (ha:PT X a tA)(hb:PW X (.BoolOp .Or (b::rest) pos) T7):PW X (.BoolOp .Or (a::b::rest) pos) (RE tA T7):=by
 intro wh af s σ H Q I h;refine isTrue_or (aZ (ha af s σ H _ I h) λc s1 VS=>?_);obtain ⟨H1,I1,q1⟩:=VS;cases c with
 | true=>exact ⟨H1,I1,q1⟩
 | false=>exact hb wh af s1 σ H1 Q I1 q1
theorem wJ (ha:PT X a tA):PT X (.UnaryOp .Not a pos) (KA tA):=by intro af s σ H Q I h;exact isTrue_not (ha af s σ H (λc H1=>Q (!c) H1) I h)
def oZ (ta tb:TE):TE:=fun σ H Q=>ta σ H λx H1=>∃ c,x=.bl c/\if c=true then tb σ H1 Q else Q (.bl false) H1
def Kz (ta tb:TE):TE:=fun σ H Q=>ta σ H λx H1=>∃ c,x=.bl c/\if c=true then Q (.bl true) H1 else tb σ H1 Q
def oS (ta:TE):TE:=fun σ H Q=>ta σ H λx H1=>∃ c,x=.bl c/\Q (.bl (!c)) H1
theorem dD {op}{t:TE}(h:PE X a t):PE X (.BoolOp op [a] pos) t:=λaf s σ H Q I hw=>BoolOp_one (h af s σ H Q I hw)
theorem dF (ha:PE X a ta)(hb:PE X (.BoolOp .And (b::rest) pos) tb):PE X (.BoolOp .And (a::b::rest) pos) (oZ ta tb):=by
 intro af s σ H Q I h;refine BoolOp_and (aZ (ha af s σ H _ I h) λv s1 VR=>?_);obtain ⟨x,H1,I1,r1,q1⟩:=VR;obtain ⟨c,rfl,q1⟩:=q1;cases r1;refine wpAny_truthy_bool ?_;cases c with
 | true=>exact hb af s1 σ H1 Q I1 q1
 | false=>exact ⟨.bl false,H1,I1,rfl,q1⟩
theorem Ot (ha:PE X a ta)(hb:PE X (.BoolOp .Or (b::rest) pos) tb):PE X (.BoolOp .Or (a::b::rest) pos) (Kz ta tb):=by
 intro af s σ H Q I h;refine BoolOp_or (aZ (ha af s σ H _ I h) λv s1 VQ=>?_);obtain ⟨x,H1,I1,r1,q1⟩:=VQ;obtain ⟨c,rfl,q1⟩:=q1;cases r1;refine wpAny_truthy_bool ?_;cases c with
 | false=>exact hb af s1 σ H1 Q I1 q1
 | true=>exact ⟨.bl true,H1,I1,rfl,q1⟩
theorem K9 (ha:PE X a ta):PE X (.UnaryOp .Not a pos) (oS ta):=by intro af s σ H Q I h;refine UnaryOp_ (aZ (ha af s σ H _ I h) λv s1 VP=>?_);obtain ⟨x,H1,I1,r1,q1⟩:=VP;obtain ⟨c,rfl,q1⟩:=q1;cases r1;exact not_of (wpAny_truthy_bool ⟨.bl (!c),H1,I1,rfl,q1⟩)
def tIf (t:TT)(ta tb:TE):TE:=fun σ H Q=>t σ H λc H1=>if c=true then ta σ H1 Q else tb σ H1 Q
theorem iu {c:Expr}(hc:PT X c tA)(ha:PE X a ta)(hb:PE X b tb):PE X (.IfExp c a b pos) (tIf tA ta tb):=by
 intro af s σ H Q I h;refine wpAny_IfExp (aZ (hc af s σ H _ I h) λd s1 VO=>?_);obtain ⟨H1,I1,q1⟩:=VO;cases d with
 | true=>exact ha af s1 σ H1 Q I1 q1
 | false=>exact hb af s1 σ H1 Q I1 q1
end
def aG (K:PySem.W.Frag)(H:Hp)(a:Addr)(xs:List V):Prop:=
 Rd H a (.lst xs) \/
  ∃ (o:Obj) (ay:Array Value) (n:Nat),K.lookup a=some o/\o.cls=.type "list" /\ o.dict=none/\o.data=.seq ay n/\ay.size<=sizeLine/\Vals xs ay.toList
def bq (K:PySem.W.Frag)(H:Hp)(a:Addr)(xs:List V):Prop:=
 Rd H a (.tup xs) \/
  ∃ (o:Obj) (ay:Array Value) (n:Nat),K.lookup a=some o/\o.cls=.type "tuple" /\ o.data=.seq ay n/\ay.size<=sizeLine/\Vals xs ay.toList
def Yl:Value->Option V
 | .none=>some .bD
 | .bool b=>some (.bl b)
 | .int i _=>some (.int i)
 | .str x _=>some (.str x)
 | .bytes b _=>some (.uw b)
 | .float b _=>some (.MY b)
 | .ref a=>some (.ref a)
 | .type n=>some (.ty n)
 | _=>none
theorem RelV.abs {x:V}{u:Value}(r:RelV x u):Yl u=some x:=by
 cases x with
 | bD=>cases r;rfl
 | bl _=>cases r;rfl
 | int _=>obtain ⟨t,rfl⟩:=r;rfl
 | str _=>obtain ⟨t,rfl⟩:=r;rfl
 | uw _=>obtain ⟨t,rfl⟩:=r;rfl
 | MY _=>obtain ⟨t,rfl⟩:=r;rfl
 | ref _=>cases r;rfl
 | ty _=>cases r;rfl
theorem RelV.inj {x y:V}{u:Value}(r:RelV x u)(q:RelV y u):x=y:=Option.some.inj (r.abs.symm.trans q.abs)
theorem Vals.inj:∀ {xs ys:List V}{us:List Value},Vals xs us->Vals ys us->xs=ys
 | _,_,_,.nil,.nil=>rfl
 | _,_,_,.cons r t,.cons r' t'=>by rw [r.inj r',Vals.inj t t']
section
variable {X:Cx}{af:List (Addr×Obj)}{σ:St}{H:Hp}{s:Shared}{a:Addr}{xs ys:List V}
theorem aG.of {K:PySem.W.Frag}(h:H a=some (.lst xs)):aG K H a xs:=.inl (.inl h)
theorem bq.of {K:PySem.W.Frag}(h:H a=some (.tup xs)):bq K H a xs:=.inl (.inl h)
theorem Inv.list (I:Inv X af σ H s)(h:aG X.K H a xs):∃ ay:List Value,Vals xs ay/\PlainL s.heap a ay.toArray/\xs.length<=sizeLine:=by
 rcases h with h | ⟨o,ay,n,hk,hc,hd,hs,hz,r⟩
 ·obtain ⟨z,ay,n,r,e⟩:=h.ok I.aY;exact ⟨ay,r,⟨_,n,e,rfl,rfl,rfl⟩,z⟩
 ·refine ⟨ay.toList,r,⟨o,n,I.oE a o hk,hc,hd,by simpa using hs⟩,?_⟩;have e:=r.length;simp only [Array.length_toList] at e;omega
theorem Inv.tuple (I:Inv X af σ H s)(h:bq X.K H a xs):∃ ay:List Value,Vals xs ay/\IsTup s.heap a ay.toArray/\xs.length<=sizeLine:=by
 rcases h with h | ⟨o,ay,n,hk,hc,hs,hz,r⟩
 ·obtain ⟨z,ay,r,p⟩:=h.ok I.aY;exact ⟨ay,r,p,z.1⟩
 ·refine ⟨ay.toList,r,⟨o,I.oE a o hk,hc,n,by simpa using hs⟩,?_⟩;have e:=r.length;simp only [Array.length_toList] at e;omega
theorem Inv.iz (I:Inv X af σ H s)(h:aG X.K H a xs)(h':aG X.K H a ys):xs=ys:=by
 obtain ⟨ay,r,⟨o,n,e,_,_,d⟩,_⟩:=I.list h;obtain ⟨its',r',⟨o',n',e',_,_,d'⟩,_⟩:=I.list h';rw [e] at e';cases e';rw [d] at d';injection d' with d1 _
 have:ay=its':=by simpa using congrArg Array.toList d1
 subst this;exact r.inj r'
theorem Inv.lU (I:Inv X af σ H s)(h:bq X.K H a xs)(h':bq X.K H a ys):xs=ys:=by
 obtain ⟨ay,r,⟨o,e,_,n,d⟩,_⟩:=I.tuple h;obtain ⟨its',r',⟨o',e',_,n',d'⟩,_⟩:=I.tuple h';rw [e] at e';cases e';rw [d] at d';injection d' with d1 _
 have:ay=its':=by simpa using congrArg Array.toList d1
 subst this;exact r.inj r'
end
abbrev Cx.jH (X:Cx)(E:Value->Shared->Prop):Cx:={ X with xe:=E }
abbrev Cx.Lh (X:Cx):Cx:=X.jH λ_ _=>False
theorem Cx.Ok.jH {X:Cx}(ok:X.Ok)(E:Value->Shared->Prop):(X.jH E).Ok:=
 ⟨ok.mod,ok.kind,ok.glob,ok.blt,ok.above,ok.inj,ok.has,ok.Tp,ok.hd,ok.frames,ok.M8,ok.ZZ,ok.bs,ok.Mq,ok.Lk,ok.N9,ok.i0,ok.QH⟩
theorem Cx.Ok.dS {X:Cx}{E:Value->Shared->Prop}(ok:(X.jH E).Ok):X.Ok:=
 ⟨ok.mod,ok.kind,ok.glob,ok.blt,ok.above,ok.inj,ok.has,ok.Tp,ok.hd,ok.frames,ok.M8,ok.ZZ,ok.bs,ok.Mq,ok.Lk,ok.N9,ok.i0,ok.QH⟩
section
variable {X:Cx}{af:List (Addr×Obj)}{σ:St}{H:Hp}{s:Shared}{E:Value->Shared->Prop}
theorem Inv.jH (I:Inv X af σ H s)(E:Value->Shared->Prop):Inv (X.jH E) af σ H s:=⟨I.ok.jH E,I.os,I.bare,I.base,I.loc,I.cell,I.free,I.fH,I.pin,I.aY,I.len⟩
theorem Inv.dS (I:Inv (X.jH E) af σ H s):Inv X af σ H s:=⟨I.ok.dS,I.os,I.bare,I.base,I.loc,I.cell,I.free,I.fH,I.pin,I.aY,I.len⟩
theorem SP.dS {D:Ends}{f:Flow}{s':Shared}(h:SP (X.jH E) af D f s'):SP X af D f s':=by
 cases f with
 | next=>obtain ⟨bu,H',I,q⟩:=h;exact ⟨bu,H',I.dS,q⟩
 | brk=>obtain ⟨bu,H',I,q⟩:=h;exact ⟨bu,H',I.dS,q⟩
 | cont=>obtain ⟨bu,H',I,q⟩:=h;exact ⟨bu,H',I.dS,q⟩
 | ret u=>obtain ⟨v,bu,H',I,r,q⟩:=h;exact ⟨v,bu,H',I.dS,r,q⟩
theorem PE.Lh {e:Expr}{t:TE}(h:PE X.Lh e t):PE X e t:=λaf s σ H Q I hw=>
 wpAny_mono (h af s σ H Q (I.jH _) hw) (λ_ _ ⟨v,H',I',r,q⟩=>⟨v,H',I'.dS,r,q⟩) λ_ _ z=>False.elim z
theorem mX.Lh {st:List Stmt}{t:TS}(h:mX X.Lh st t):mX X st t:=λaf s σ H D I hw=>
 wpAny_mono (h af s σ H D (I.jH _) hw) (λ_ _ q=>q.dS) λ_ _ z=>False.elim z
end
section
variable {X:Cx}{st:Stmt}{rest:List Stmt}{t u:TS}{e:Expr}{te:TE}{pos:Pos}
def jg:TS:=λD σ H=>D.nx σ H
def qZ (t u:TS):TS:=λD σ H=>t (D.go (u D)) σ H
theorem xk:mX X [] jg:=λ_ _ σ H _ I h=>wpAny_execs_nil ⟨σ,H,I,h⟩
theorem K5 (h1:PS X st t)(h2:mX X rest u):mX X (st::rest) (qZ t u):=by
 intro af s σ H D I h;refine wpAny_execs_cons (aZ (h1 af s σ H (D.go (u D)) I h) λf s1 q=>?_);cases f with
 | next=>
  obtain ⟨bu,H',I',q⟩:=q;exact h2 af s1 bu H' D I' q
 | ret v=>exact q
 | brk=>exact q
 | cont=>exact q
theorem Nq (h1:PS X st t):mX X [st] t:=by
 intro af s σ H D I h;refine wpAny_execs_cons (aZ (h1 af s σ H D I h) λf s1 q=>?_);cases f with
 | next=>exact wpAny_execs_nil q
 | ret v=>exact q
 | brk=>exact q
 | cont=>exact q
def RJ:TS:=λD σ H=>D.ct σ H
theorem ji:PS X (.Continue pos) RJ:=λ_ _ σ H _ I h=>wpAny_Continue ⟨σ,H,I,h⟩
theorem Inv.quiet {af:List (Addr×Obj)}{σ:St}{H:Hp}{s:Shared}(I:Inv X af σ H s):interactive X.env=false:=by simp [interactive,I.ok.kind]
def oU (te:TE):TS:=λD σ H=>te σ H λ_ H1=>D.nx σ H1
theorem wf (he:PE X e te)(hs:swapsWith e none pos.line X.env=pure false:=by rfl):PS X (.Expr e pos) (oU te):=by intro af s σ H D I h;exact wpAny_Expr_any (aZ (he af s σ H _ I h) λv s1 ⟨x,H1,I1,r1,q1⟩=>⟨σ,H1,I1,q1⟩) I.quiet hs
def Ky (te:TE):TS:=λD σ H=>te σ H D.rt
theorem xh (he:PE X e te):PS X (.Return (some e) pos) (Ky te):=by intro af s σ H D I h;exact wpAny_Return_some (aZ (he af s σ H _ I h) λv s1 ⟨x,H1,I1,r1,q1⟩=>⟨x,σ,H1,I1,r1,q1⟩)
def KD (c:TT)(t u:TS):TS:=λD σ H=>c σ H λb H1=>if b=true then t D σ H1 else u D σ H1
theorem xt {c:Expr}{a b:List Stmt}{tc:TT}(hc:PT X c tc)(ha:mX X a t)(hb:mX X b u):PS X (.If c a b pos) (KD tc t u):=by
 intro af s σ H D I h;refine wpAny_If (aZ (hc af s σ H _ I h) λd s1 VN=>?_);obtain ⟨H1,I1,q1⟩:=VN;cases d with
 | true=>exact ha af s1 σ H1 D I1 q1
 | false=>exact hb af s1 σ H1 D I1 q1
def Pc:TS:=λ_ _ _=>False
theorem K6:PS X st Pc:=λ_ _ _ _ _ _ h=>h.elim
end
abbrev TG:=V->St->Hp->(St->Hp->Prop)->Prop
abbrev OW:=List V->St->Hp->(St->Hp->Prop)->Prop
def PG (X:Cx)(target:Expr)(t:TG):Prop:=
 ∀ (af:List (Addr×Obj)) (s:Shared) (σ:St) (H:Hp) (v:V) (u:Value) (Q:St->Hp->Prop),Inv X af σ H s->RelV v u->t v σ H Q ->
  wpAny (model X.prog X.w) X.A (assign target X.env u) (λ_ s'=>∃ bu H',Inv X af bu H' s'/\Q bu H') X.xe s
def TH (X:Cx)(ts:List Expr)(t:OW):Prop:=
 ∀ (af:List (Addr×Obj)) (s:Shared) (σ:St) (H:Hp) (vs:List V) (us:List Value) (Q:St->Hp->Prop),Inv X af σ H s->Vals vs us->t vs σ H Q ->
  wpAny (model X.prog X.w) X.A (assignInOrder ((assignEach ts X.env).map (·.2)) us) (λ_ s'=>∃ bu H',Inv X af bu H' s'/\Q bu H') X.xe s
abbrev MA:=V->V->V->Hp->(Hp->Prop)->Prop
def QZ (X:Cx)(t:MA):Prop:=
 ∀ (af:List (Addr×Obj)) (s:Shared) (σ:St) (H:Hp) (o i v:V) (ov iv u:Value) (Q:Hp->Prop),Inv X af σ H s->RelV o ov->RelV i iv->RelV v u->t o i v H Q ->
  wpAny (model X.prog X.w) X.A (setItem ov iv u) (λ_ s'=>∃ H',Inv X af σ H' s'/\Q H') X.xe s
abbrev UX:=V->V->Hp->VK->Prop
def Z6 (X:Cx)(op:Operator)(t:UX):Prop:=
 ∀ (af:List (Addr×Obj)) (s:Shared) (σ:St) (H:Hp) (x y:V) (v u:Value) (Q:VK),Inv X af σ H s->RelV x v->RelV y u->t x y H Q ->
  wpAny (model X.prog X.w) X.A (inplaceOp op v u) (EP X af σ Q) X.xe s
section
variable {X:Cx}{pos:Pos}
def ki (i:Nat):TG:=λv σ H Q=>Q (σ.set i (some v)) H
theorem xW {i:Nat}{x:Str}(hN:X.N.Nodup)(hi:X.N[i]?=some x)(hx:NK X.env.scope x=true)(hf:mL X x=true:=by rfl):PG X (.Name x pos) (ki i):=by have hx:=tV hx;intro af s σ H v u Q I r h;exact wpAny_assign_Name (o6 I hN hi hx r (λs' I'=>⟨_,H,I',h⟩) hf)
def LR:OW:=λvs σ H Q=>vs=[]/\Q σ H
def p7 (t:TG)(u:OW):OW:=λvs σ H Q=>∃ v r,vs=v::r/\t v σ H fun bu H'=>u r bu H' Q
theorem xv:TH X [] LR:=by intro af s σ H vs us Q I r h;obtain ⟨e,h⟩:=h;subst e;cases r;exact assignInOrder_nil ⟨σ,H,I,h⟩
theorem xV {e:Expr}{es:List Expr}{t:TG}{u:OW}(h1:PG X e t)(h2:TH X es u)
  (hs:(assignEach (e::es) X.env).map (·.2)=assign e X.env::(assignEach es X.env).map (·.2):=by rfl):TH X (e::es) (p7 t u):=by
 intro af s σ H vs us Q I r h;obtain ⟨v,vr,e1,h⟩:=h;subst e1;cases r with
 | cons r rr=>
  rw [hs];refine assignInOrder_cons (aZ (h1 af s σ H _ _ _ I r h) λ_ s1 VM=>?_);obtain ⟨Q9,H1,I1,q1⟩:=VM;exact h2 af s1 Q9 H1 _ _ Q I1 rr q1
def vG (K:PySem.W.Frag)(n:Nat)(t:OW):TG:=λv σ H Q=>∃ a xs,v=.ref a/\bq K H a xs/\xs.length=n/\t xs σ H Q
theorem Pz {es:List Expr}{k:Nat}{t:OW}{n:Nat}(hc:X.calm=true)(h:TH X es t)
  (hn:(assignEach es X.env).length=n:=by rfl) (vB:(assignEach es X.env).findIdx? (·.1)=none:=by rfl):PG X (.Tuple es k pos) (vG X.K n t):=by
 intro af s σ H v u Q I r hw;obtain ⟨a,xs,e1,hq,hl,hw⟩:=hw;subst e1;cases r;obtain ⟨ay,rv,ht,hz⟩:=I.tuple hq;refine assign_Tuple_tuple (I.ok.hd hc) ht (by simp [hn,<- hl,rv.length]) vB λh' hx=>?_;have I1:Inv X af σ H { s with heap:=h' }:=I.kept (t':=s.toks) λb o e=>hx b o (zW (Heap.lt_size e)) e;exact h af _ σ H xs _ Q I1 (by simpa using rv) hw
def LQ (to ti:TE)(t:MA):TG:=λv σ H Q=>to σ H λo H1=>ti σ H1 λi H2=>t o i v H2 λH3=>Q σ H3
theorem fB {o i:Expr}{to ti:TE}{t:MA}(ho:PE X o to)(hi:PE X i ti)(hs:QZ X t)
  (ha:∀ v,assign (.Subscript o i pos) X.env v=(do
   let ov <- holding [v] (eval o X.env)
   let iv <- holding [v,ov] (eval i X.env)
   standAt pos
   holding [v,ov,iv] (setItem ov iv v)
   release [v,ov,iv] []):=by intro _;rfl):PG X (.Subscript o i pos) (LQ to ti t):=by
 intro af s σ H v u Q I r h;rw [ha];refine wpAny_bind (wpAny_holding (aZ (ho af s σ H _ I h) λov s1 VL=>?_));obtain ⟨x,H1,I1,r1,q1⟩:=VL;refine wpAny_bind (wpAny_holding (aZ (hi af s1 σ H1 _ I1 q1) λiv s2 VJ=>?_));obtain ⟨y,H2,I2,r2,q2⟩:=VJ;refine wpAny_bind (wpAny_standAt (wpAny_bind (wpAny_holding (aZ (hs af s2 σ H2 x y v ov iv u _ I2 r1 r2 r q2) λ_ s3 VI=>?_))));obtain ⟨H3,I3,q3⟩:=VI;exact wpAny_release ⟨σ,H3,I3,q3⟩
def uK (te:TE)(g:TG):TS:=λD σ H=>te σ H λx H1=>g x σ H1 D.nx
theorem wd {tg e:Expr}{te:TE}{g:TG}(he:PE X e te)(hg:PG X tg g)(hs:swapsWithSole [tg] e pos.line X.env=pure false:=by rfl)(hw:swappedStores [tg] e X.env=pure none:=by rfl)
  (h1:(assignEach [tg] X.env).map (·.2)=[assign tg X.env]:=by rfl):PS X (.Assign [tg] e pos) (uK te g):=by
 intro af s σ H D I h;refine wpAny_Assign_stores (aZ (he af s σ H _ I h) λv s1 VH=>?_) hs hw;obtain ⟨x,H1,I1,r1,q1⟩:=VH;rw [h1];exact aZ (hg af s1 σ H1 x v _ I1 r1 q1) λ_ s2 q=>q
theorem xn {i:Nat}{x:Str}{e:Expr}{te:TE}{pos':Pos}(hN:X.N.Nodup)(hi:X.N[i]?=some x)(hx:NK X.env.scope x=true)(he:PE X e te)(hs:swapsWith e (some (.Name x pos')) pos.line X.env=pure false:=by rfl)(hf:mL X x=true:=by rfl) :
  PS X (.Assign [.Name x pos'] e pos) (uK te (ki i)):=by
 have hx:=tV hx;intro af s σ H D I h;refine wpAny_Assign_Name (aZ (he af s σ H _ I h) λv s1 VG=>?_) hs;obtain ⟨y,H1,I1,r1,q1⟩:=VG;exact o6 I1 hN hi hx r1 (λs2 I2=>⟨_,H1,I2,q1⟩) hf
def oY (to ti te:TE)(M5:V->V->Hp->VK->Prop)(T6:UX)(M3:MA):TS:=λD σ H=>to σ H λo H1=>ti σ H1 λi H2=>M5 o i H2 λx H3=>te σ H3 λy H4=>T6 x y H4 λz H5=>M3 o i z H5 λH6=>D.nx σ H6
def TN (X:Cx)(t:V->V->Hp->VK->Prop):Prop:=
 ∀ (af:List (Addr×Obj)) (s:Shared) (σ:St) (H:Hp) (o i:V) (ov iv:Value) (Q:VK),Inv X af σ H s->RelV o ov->RelV i iv->t o i H Q ->
  wpAny (model X.prog X.w) X.A (getItem ov iv) (EP X af σ Q) X.xe s
theorem Nt {o i e:Expr}{to ti te:TE}{M5:V->V->Hp->VK->Prop}{T6:UX}{M3:MA}{op:Operator}{O7:Pos}(ho:PE X o to)(hi:PE X i ti)(hg:TN X M5)(he:PE X e te)(hp:Z6 X op T6)(hs:QZ X M3)
  (ha:∀ ov iv new,augStore i ov iv new=(do holding [new,ov,iv] (setItem ov iv new);release [new,ov,iv] [];pure .next):=by intros;rfl):PS X (.AugAssign (.Subscript o i O7) op e pos) (oY to ti te M5 T6 M3):=by
 intro af s σ H D I h;refine wpAny_AugAssign_SubscriptAny (aZ (ho af s σ H _ I h) λov s1 VF=>?_) ha;obtain ⟨x1,H1,I1,r1,q1⟩:=VF;refine aZ (hi af s1 σ H1 _ I1 q1) λiv s2 VE=>?_;obtain ⟨x2,H2,I2,r2,q2⟩:=VE;refine aZ (hg af s2 σ H2 x1 x2 ov iv _ I2 r1 r2 q2) λold s3 VD=>?_;obtain ⟨x3,H3,I3,r3,q3⟩:=VD;refine aZ (he af s3 σ H3 _ I3 q3) λv s4 VC=>?_;obtain ⟨x4,H4,I4,r4,q4⟩:=VC;refine aZ (hp af s4 σ H4 x3 x4 old v _ I4 r3 r4 q4) λnew s5 VB=>?_;obtain ⟨x5,H5,I5,r5,q5⟩:=VB;exact aZ (hs af s5 σ H5 x1 x2 x5 ov iv new _ I5 r1 r2 r5 q5) λ_ s6 ⟨H6,I6,q6⟩=>⟨σ,H6,I6,q6⟩
def So (f:Int->Int->Int):UX:=λx y H Q=>∃ i j,x=.int i/\y=.int j/\Q (.int (f i j)) H
theorem Qe:Z6 X .Add (So λi j=>i + j):=by intro af s σ H x y v u Q I r1 r2 h;obtain ⟨i,j,e1,e2,q⟩:=h;subst e1;subst e2;obtain ⟨t,rfl⟩:=r1;obtain ⟨t',rfl⟩:=r2;exact iadd_int ⟨.int _,H,I.tok _,⟨_,rfl⟩,q⟩
end
section
variable {X:Cx}{pos:Pos}
def jL (c:TT)(tb:TS):TS:=λD σ H=>∃ W:Nat->St->Hp->Prop,(∃ m,W m σ H)/\∀ m σ H,W m σ H ->
 c σ H λb H1=>if b=true then ∃ N:St->Hp->Prop,(∀ bu H',N bu H'->∃ m',m' < m/\W m' bu H')/\tb (D.lp N) σ H1 else D.nx σ H1
theorem pF {c:Expr}{body:List Stmt}{tc:TT}{tb:TS}(hp:PassesOwn (model X.prog X.w) X.A X.env X.xe)(hc:PT X c tc)(hb:mX X body tb):PS X (.While c body [] pos) (jL tc tb):=by
 intro af s σ H D I h;obtain ⟨W,⟨m0,w0⟩,turn⟩:=h;refine wpAny_While (codeAny_whileLoop (λn s'=>∃ bu H',Inv X af bu H' s'/\W n bu H') ?_ m0 ⟨σ,H,I,w0⟩);rintro n s1 ⟨Q9,H1,I1,w1⟩;refine wpAny_passesOwn hp (aZ (hc af s1 Q9 H1 _ I1 (turn n Q9 H1 w1)) λb s2 VA=>?_);obtain ⟨H2,I2,q2⟩:=VA;cases b with
 | true=>
  obtain ⟨N,hN,q2⟩:=q2;rw [if_pos rfl];refine wpAny_passesOwn hp (aZ (hb af s2 Q9 H2 _ I2 q2) λf s3 q3=>?_);cases f with
  | next=>
   obtain ⟨Kh,H3,I3,n3⟩:=q3;obtain ⟨m',hm,w3⟩:=hN Kh H3 n3;exact ⟨m',hm,Kh,H3,I3,w3⟩
  | cont=>
   obtain ⟨Kh,H3,I3,n3⟩:=q3;obtain ⟨m',hm,w3⟩:=hN Kh H3 n3;exact ⟨m',hm,Kh,H3,I3,w3⟩
  | brk=>exact q3
  | ret v=>exact q3
 | false=>
  rw [if_neg zM];exact wpAny_execs_nil ⟨Q9,H2,I2,q2⟩
end
structure It where
 go:Nat->Hp->Prop
 qx:Nat->Hp->V->Hp->Prop
 stop:Nat->Hp->Prop
def jf (X:Cx)(af:List (Addr×Obj))(H:Hp)(b:Addr):Prop:=
 H b=none/\b≠X.env.locals/\b ∉ X.fs/\(b∈X.ex\/X.cO.heap.objs.size<=b)/\(∀ x c,X.env.cells.lookup x=some c->c≠b)/\∀ p∈X.pn++af,p.1≠b
theorem Inv.nO {X:Cx}{af:List (Addr×Obj)}{σ:St}{H H':Hp}{s:Shared}{b:Addr}(I:Inv X af σ H s)(hb:s.heap.objs.size<=b)(hn:H' b=none):jf X af H' b:=by
 refine ⟨hn,yZ (zS I.lt hb),I.R7 hb,.inr (zz I.sz hb),λx c e z=>?_,λp hp z=>?_⟩
 ·obtain ⟨v,q⟩:=I.cell x c e;exact absurd (zS q.lt (by rw [z];exact hb)) (yK _)
 ·exact absurd (zS (Heap.lt_size (I.pin p hp).1) (by rw [z];exact hb)) (yK _)
structure Turn (P:Program) (w:World) (K:PySem.W.Frag) (tg:Expr) (J:It) (fp:List Addr) (it:Addr) (tn:Nat->Heap->Prop):Prop where
 mem:it∈fp
 obj:∀ i h,tn i h->∀ b∈fp,∃ o,h.get? b=some o/\∀ v,o.data≠.cell v
 keep:∀ i h h',tn i h->(∀ b∈fp,∀ o,h.get? b=some o->h'.get? b=some o)->tn i h'
 item:∀ (X:Cx),X.prog=P->X.w=w->X.K=K->X.calm=true->∀ (i:Nat) (af:List (Addr×Obj)) (s:Shared) (σ:St) (H:Hp) (E:Value->Shared->Prop),Inv X af σ H s->(∀ b∈fp,jf X af H b)->tn i s.heap->J.go i H ->
  wpAny (model P w) X.A (pyNext (.ref it)) (λr s1=>∃ u,r=some u /\
   wpAny (model P w) X.A (letOwnedTupleGo tg (.ref it) u) (λ_ s2=>∃ x H',Inv X af σ H' s2/\RelV x u/\J.qx i H x H'/\tn (i + 1) s2.heap/\∀ b∈fp,H' b=none) E s1) E s
 done:∀ (X:Cx),X.prog=P->X.w=w->X.K=K->X.calm=true->∀ (i:Nat) (af:List (Addr×Obj)) (s:Shared) (σ:St) (H:Hp) (E:Value->Shared->Prop),Inv X af σ H s->(∀ b∈fp,jf X af H b)->tn i s.heap->J.stop i H ->
  wpAny (model P w) X.A (pyNext (.ref it)) (λr s1=>r=none/\Inv X af σ H s1) E s
 self:∀ (A:Around) (i:Nat) (s:Shared) (Q:Value->Shared->Prop) (E:Value->Shared->Prop),tn i s.heap->Q (.ref it) s->wpAny (model P w) A (pyIter (.ref it)) Q E s
abbrev TI:=St->Hp->(It->Hp->Prop)->Prop
def Z7 (X:Cx)(af:List (Addr×Obj))(σ:St)(tg:Expr)(R:It->Hp->Prop)(WM:Value)(s2:Shared):Prop:=
 ∃ (it:Addr) (fp:List Addr) (tn:Nat->Heap->Prop) (J:It) (H':Hp),WM=.ref it/\Inv X af σ H' s2/\Turn X.prog X.w X.K tg J fp it tn/\tn 0 s2.heap/\(∀ b∈fp,jf X af H' b)/\R J H'
def PI (X:Cx)(tg iter:Expr)(wi:TI):Prop:=
 ∀ (af:List (Addr×Obj)) (s:Shared) (σ:St) (H:Hp) (R:It->Hp->Prop),Inv X af σ H s->wi σ H R ->
  wpAny (model X.prog X.w) X.A (eval iter X.env) (λv s1=>wpAny (model X.prog X.w) X.A (pyIter v) (Z7 X af σ tg R) X.xe s1) X.xe s
theorem t8 {M:Model}{A:Around}{E:Value->Shared->Prop}{s:Shared}{tg:Expr}{it:Addr}{u:Value}{o:Obj}{n:String}{vs:Array Value}{Q:Unit->Shared->Prop}(ho:s.heap.get? it=some o)(hc:o.cls=.type n)(hd:o.data=.fields vs)
    (hn:["enumerate", "zip", "dict_itemiterator", "dict_reverseitemiterator", "odict_iterator", "itertools.zip_longest", "itertools.pairwise"].contains n=false) (hQ:Q () s):wpAny M A (letOwnedTupleGo tg (.ref it) u) Q E s:=by
  unfold letOwnedTupleGo;cases tg <;> first
    | exact wpAny_pure hQ
    | (cases u <;> first
        | exact wpAny_pure hQ
        | (refine wpAny_bind (wpAny_load ho ?_)
           rw [hc,hd];show wpAny M A (if (["enumerate", "zip", "dict_itemiterator", "dict_reverseitemiterator", "odict_iterator", "itertools.zip_longest", "itertools.pairwise"].contains n && vs[0]? == some (rawInt _))=true then _ else _) Q E s;rw [if_neg (by intro h;rw [hn,yQ] at h;cases h)];exact wpAny_pure hQ))
def Oh (K:PySem.W.Frag)(a:Addr):It:=
 ⟨λi H=>∃ xs x,aG K H a xs/\xs[i]?=some x,λi H x H'=>H'=H/\∀ xs,aG K H a xs->xs[i]?=some x,λi H=>∃ xs,aG K H a xs/\xs.length<=i⟩
def Og (K:PySem.W.Frag)(a:Addr):It:=
 ⟨λi H=>∃ xs x,bq K H a xs/\xs[i]?=some x,λi H x H'=>H'=H/\∀ xs,bq K H a xs->xs[i]?=some x,λi H=>∃ xs,bq K H a xs/\xs.length<=i⟩
def MF (lo:Int)(n:Nat):It:=⟨λi _=>i < n,λi H x H'=>H'=H/\x=.int (lo + i),λi _=>n<=i⟩
theorem uI {P:Program}{w:World}{K:PySem.W.Frag}{tg:Expr}(a it:Addr):Turn P w K tg (Oh K a) [it] it (λi h=>h.IsListIter it a i) where
 mem:=by simp
 obj:=λi h st b hb=>by
  have e:b=it:=by simpa using hb
  subst e;obtain ⟨o,e,c,d⟩:=st;exact ⟨o,e,λv z=>by rw [d] at z;cases z⟩
 keep:=λi h h' st k=>st.at λo e=>k it (by simp) o e
 item:=by
  intro X hP hw hK hc i af s σ H E I hf st hg;subst hP hw hK;obtain ⟨xs,x,hq,hx⟩:=hg;obtain ⟨ay,rv,p,hz⟩:=I.list hq;obtain ⟨u,hu,ru⟩:=rv.get hx;obtain ⟨f0,f1,f2,f3,f4,f5⟩:=hf it (by simp);refine wpAny_pyNext_list_item st p.isList (x:=u) (by simpa using hu) λh' rz sb=>?_;have I1:Inv X af σ H { s with heap:=h' }:=I.turned (t':=s.toks) (λb o hb e=>(sb.2 b hb).trans e) f0 f1 f3 f4 f5;obtain ⟨o,e,c,d⟩:=id rz;exact ⟨u,rfl,t8 (s:={ s with heap:=h' }) e c d (by decide) ⟨x,H,I1,ru,⟨rfl,λys hy=>by rw [I.iz hy hq];exact hx⟩,rz,λb hb=>(hf b hb).1⟩⟩
 done:=by
  intro X hP hw hK hc i af s σ H E I hf st hg;subst hP hw hK;obtain ⟨xs,hq,hx⟩:=hg;obtain ⟨ay,rv,p,hz⟩:=I.list hq;obtain ⟨f0,f1,f2,f3,f4,f5⟩:=hf it (by simp);have hl:=rv.length;exact wpAny_pyNext_list_end (I.ok.hd hc) st p.isList (by simp;omega) λh' eb=>⟨rfl,I.turned (t':=s.toks) (λb o hb e=>eb b o hb e) f0 f1 f3 f4 f5⟩
 self:=λ_ _ _ _ _ st h=>wpAny_pyIter_listiter st h
theorem qS {P:Program}{w:World}{K:PySem.W.Frag}{tg:Expr}(a it:Addr):Turn P w K tg (Og K a) [it] it (λi h=>h.IsTupleIter it a i) where
 mem:=by simp
 obj:=λi h st b hb=>by
  have e:b=it:=by simpa using hb
  subst e;obtain ⟨o,e,c,d⟩:=st;exact ⟨o,e,λv z=>by rw [d] at z;cases z⟩
 keep:=λi h h' st k=>st.at λo e=>k it (by simp) o e
 item:=by
  intro X hP hw hK hc i af s σ H E I hf st hg;subst hP hw hK;obtain ⟨xs,x,hq,hx⟩:=hg;obtain ⟨ay,rv,p,hz⟩:=I.tuple hq;obtain ⟨u,hu,ru⟩:=rv.get hx;obtain ⟨f0,f1,f2,f3,f4,f5⟩:=hf it (by simp);refine wpAny_pyNext_tuple_item st (show s.heap.IsTuple a ay.toArray from p) (x:=u) (by simpa using hu) λh' rz sb=>?_;have I1:Inv X af σ H { s with heap:=h' }:=I.turned (t':=s.toks) (λb o hb e=>(sb.2 b hb).trans e) f0 f1 f3 f4 f5;obtain ⟨o,e,c,d⟩:=id rz;exact ⟨u,rfl,t8 (s:={ s with heap:=h' }) e c d (by decide) ⟨x,H,I1,ru,⟨rfl,λys hy=>by rw [I.lU hy hq];exact hx⟩,rz,λb hb=>(hf b hb).1⟩⟩
 done:=by
  intro X hP hw hK hc i af s σ H E I hf st hg;subst hP hw hK;obtain ⟨xs,hq,hx⟩:=hg;obtain ⟨ay,rv,p,hz⟩:=I.tuple hq;obtain ⟨f0,f1,f2,f3,f4,f5⟩:=hf it (by simp);have hl:=rv.length;exact wpAny_pyNext_tuple_end (I.ok.hd hc) st (show s.heap.IsTuple a ay.toArray from p) (by simp;omega) λh' eb=>⟨rfl,I.turned (t':=s.toks) (λb o hb e=>eb b o hb e) f0 f1 f3 f4 f5⟩
 self:=λ_ _ _ _ _ st h=>wpAny_pyIter_tupleiter st h
theorem qT {P:Program}{w:World}{K:PySem.W.Frag}{tg:Expr}(it:Addr)(lo:Int)(n:Nat):Turn P w K tg (MF lo n) [it] it (λi h=>IsRangeIter h it (lo + (i:Nat) * 1) ((n:Int) - (i:Nat)) 1) where
 mem:=by simp
 obj:=λi h st b hb=>by
  have e:b=it:=by simpa using hb
  subst e;exact ⟨_,st,λv z=>by
   have z':Data.fields _=Data.cell v:=z;cases z'⟩
 keep:=λi h h' st k=>k it (by simp) _ st
 item:=by
  intro X hP hw hK hc i af s σ H E I hf st hg;subst hP hw hK;obtain ⟨f0,f1,f2,f3,f4,f5⟩:=hf it (by simp);have W:=Walks.range (prog:=X.prog) (w:=X.w) (I.ok.hd hc) it lo 1 n;refine W.item i s _ _ hg st λv h' tk hv rz kk=>?_;obtain ⟨t,rfl⟩:=hv;have I1:Inv X af σ H { s with heap:=h',toks:=tk }:=I.turned (λb o hb e=>kk b o (by simpa using hb) e) f0 f1 f3 f4 f5;refine ⟨_,rfl,t8 (s:={ s with heap:=h',toks:=tk }) (n := "range_iterator") rz rfl rfl (by decide) ⟨.int (lo + i),H,I1,⟨t,?_⟩,⟨rfl,rfl⟩,rz,λb hb=>(hf b hb).1⟩⟩;rw [Int.mul_one]
 done:=by
  intro X hP hw hK hc i af s σ H E I hf st hg;subst hP hw hK;obtain ⟨f0,f1,f2,f3,f4,f5⟩:=hf it (by simp);exact wpAny_pyNext_range_end (I.ok.hd hc) st (by have:n<=i:=hg;omega) λh' eb=>⟨rfl,I.turned (t':=s.toks) (λb o hb e=>eb b o hb e) f0 f1 f3 f4 f5⟩
 self:=λ_ _ _ _ _ st h=>wpAny_pyIter_rangeiter st h
section
variable {X:Cx}{tg:Expr}
def OA (K:PySem.W.Frag)(tl:TE):TI:=fun σ H R=>tl σ H λx H1=>∃ a,x=.ref a/\(∃ xs,aG K H1 a xs)/\R (Oh K a) H1
def Ss (K:PySem.W.Frag)(tl:TE):TI:=fun σ H R=>tl σ H λx H1=>∃ a,x=.ref a/\(∃ xs,bq K H1 a xs)/\R (Og K a) H1
theorem Nv {l:Expr}{tl:TE}(hl:PE X l tl):PI X tg l (OA X.K tl):=by
 intro af s σ H R I h;refine aZ (hl af s σ H _ I h) λv s1 Vz=>?_;obtain ⟨x,H1,I1,r1,q1⟩:=Vz;obtain ⟨a,e,⟨xs,hq⟩,q⟩:=q1;subst e;cases r1;obtain ⟨ay,rv,p,hz⟩:=I1.list hq;refine wpAny_pyIter_list p.isList ?_;refine ⟨s1.heap.objs.size,[s1.heap.objs.size],_,_,H1,rfl,I1.kept (t':=s1.toks) λb o e=>Heap.get?_push_of_some _ e,uI a _,⟨_,Heap.get?_push_size _ rfl,rfl,rfl⟩,λb hb=>?_,q⟩;have e:b=s1.heap.objs.size:=by simpa using hb
 subst e;exact I1.nO (zE _) (I1.aY.fresh (zE _))
theorem Py {l:Expr}{tl:TE}(hl:PE X l tl):PI X tg l (Ss X.K tl):=by
 intro af s σ H R I h;refine aZ (hl af s σ H _ I h) λv s1 Vy=>?_;obtain ⟨x,H1,I1,r1,q1⟩:=Vy;obtain ⟨a,e,⟨xs,hq⟩,q⟩:=q1;subst e;cases r1;obtain ⟨ay,rv,p,hz⟩:=I1.tuple hq;refine wpAny_pyIter_tuple (show s1.heap.IsTuple a ay.toArray from p) ?_;refine ⟨s1.heap.objs.size,[s1.heap.objs.size],_,_,H1,rfl,I1.kept (t':=s1.toks) λb o e=>Heap.get?_push_of_some _ e,qS a _,⟨_,Heap.get?_push_size _ rfl,rfl,rfl⟩,λb hb=>?_,q⟩;have e:b=s1.heap.objs.size:=by simpa using hb
 subst e;exact I1.nO (zE _) (I1.aY.fresh (zE _))
theorem pA {af:List (Addr×Obj)}{σ:St}{H:Hp}{s:Shared}{R:It->Hp->Prop}{E:Value->Shared->Prop}{lo hi:Int}{t u v:Tok}{tk:Nat}(I:Inv X af σ H s)(h1:-(2 ^ 62)<=lo)(h2:lo < 2 ^ 62)(h3:-(2 ^ 62)<=hi)(h4:hi < 2 ^ 62)
  (q:R (MF lo (hi - lo).toNat) H):wpAny (model X.prog X.w) X.A (pyIter (.ref s.heap.objs.size)) (Z7 X af σ tg R) E { s with heap:=s.heap.push { cls:=.type "range", data:=.fields #[.int lo t,.int hi u,.int 1 v] },toks:=tk }:=by
 refine wpAny_pyIter_range (IsRange.new ..) (small_one h1 h2 h3 h4) ?_;have I1:Inv X af σ H { s with heap:=s.heap.push { cls:=.type "range", data:=.fields #[.int lo t,.int hi u,.int 1 v] },toks:=tk }:=I.kept λb o e=>Heap.get?_push_of_some _ e;refine ⟨(s.heap.push { cls:=.type "range", data:=.fields #[.int lo t,.int hi u,.int 1 v] }).objs.size,[(s.heap.push { cls:=.type "range", data:=.fields #[.int lo t,.int hi u,.int 1 v] }).objs.size],_,_,H,rfl,
  I1.kept (t':=tk) λb o e=>Heap.get?_push_of_some _ e,qT _ lo (hi - lo).toNat,?_,λb hb=>?_,q⟩
 ·have e1:lo + ((0:Nat):Int) * 1=lo:=by simp
  have e2:(((hi - lo).toNat:Nat):Int) - ((0:Nat):Int)=Builtin.Range.rangeSize lo hi 1:=by rw [rangeSize_one];split <;> omega
  show IsRangeIter _ _ (lo + ((0:Nat):Int) * 1) ((((hi - lo).toNat:Nat):Int) - ((0:Nat):Int)) 1;rw [e1,e2];exact Heap.get?_push_size _ rfl
 ·have e:b=(s.heap.push { cls:=.type "range", data:=.fields #[.int lo t,.int hi u,.int 1 v] }).objs.size:=by simpa using hb
  subst e;exact I1.nO (zE _) (I1.aY.fresh (zE _))
def Sv (ta:TA):TI:=fun σ H R=>ta σ H λvs H1=>∃ j:Int,vs=[.int j]/\-(2 ^ 62)<=j/\j < 2 ^ 62/\R (MF 0 j.toNat) H1
def Su (ta:TA):TI:=fun σ H R=>ta σ H λvs H1=>∃ i j:Int,vs=[.int i,.int j]/\(-(2 ^ 62)<=i/\i < 2 ^ 62/\-(2 ^ 62)<=j/\j < 2 ^ 62)/\R (MF i (j - i).toNat) H1
theorem wZ {a:Expr}{ta:TA}{p pos:Pos}(hg:Gl X "range")(hm:X.mg "range" = none)(ha:PA X [a] ta)(hs:starEach [a] X.env=[(false,eval a X.env)]:=by rfl):PI X tg (.Call (.Name "range" p) [a] [] pos) (Sv ta):=by
 intro af s σ H R I h;refine Call_ (cj I hg hm boot_range (zl (aZ (ha pos af s σ H _ I h) λus s1 Vx=>?_) hs rfl));obtain ⟨vs,H1,I1,r1,q1⟩:=Vx;obtain ⟨j,e,q1,q2,q⟩:=q1;subst e;cases r1 with
 | cons r rr=>
  cases rr;obtain ⟨t,rfl⟩:=r;exact call_range_1 (pA I1 (by omega) (by omega) q1 q2 (by simpa using q))
theorem u7 {a b:Expr}{ta:TA}{p pos:Pos}(hg:Gl X "range")(hm:X.mg "range" = none)(ha:PA X [a,b] ta)(hs:starEach [a,b] X.env=[(false,eval a X.env),(false,eval b X.env)]:=by rfl)(tZ:starEach [b] X.env=[(false,eval b X.env)]:=by rfl) :
  PI X tg (.Call (.Name "range" p) [a,b] [] pos) (Su ta):=by
 intro af s σ H R I h;refine Call_ (cj I hg hm boot_range (zl (aZ (ha pos af s σ H _ I h) λus s1 Vw=>?_) (by rw [hs,tZ]) (by rw [tZ];rfl)));obtain ⟨vs,H1,I1,r1,q1⟩:=Vw;obtain ⟨i,j,e,⟨q1,q2,q3,q4⟩,q⟩:=q1;subst e;cases r1 with
 | cons r rr=>
  cases rr with
  | cons r' rr=>
   cases rr;obtain ⟨t,rfl⟩:=r;obtain ⟨t',rfl⟩:=r';exact call_range_2 (pA I1 q1 q2 q3 q4 q)
def Wa (wi:TI)(g:TG)(tb:TS):TS:=λD σ H=>wi σ H λJ H1=>∃ W:Nat->Nat->St->Hp->Prop,(∃ m,W 0 m σ H1)/\∀ i m σ H,W i m σ H ->
 (J.stop i H/\D.nx σ H)\/(J.go i H/\∃ N:St->Hp->Prop,(∀ bu H',N bu H'->∃ m',m' < m/\W (i + 1) m' bu H')/\∀ x H',J.qx i H x H'->g x σ H' fun gT H2=>tb (D.lp N) gT H2)
def jW (fp:List Addr)(h:Heap):List (Addr×Obj):=fp.filterMap λb=>(h.get? b).map λo=>(b,o)
theorem dX {fp:List Addr}{h:Heap}{b:Addr}{o:Obj}(hb:b∈fp)(e:h.get? b=some o):(b,o)∈jW fp h:=yb.mpr ⟨b,hb,by rw [e];rfl⟩
theorem ve {fp:List Addr}{h:Heap}{p:Addr×Obj}(hp:p∈jW fp h):p.1∈fp/\h.get? p.1=some p.2:=by
 obtain ⟨b,hb,e⟩:=yb.mp hp;cases q:h.get? b with
 | none=>rw [q] at e;cases e
 | some o=>
  rw [q] at e;have e':(b,o)=p:=Option.some.inj e;subst e';exact ⟨hb,q⟩
theorem Inv.pinned {af:List (Addr×Obj)}{σ:St}{H:Hp}{s:Shared}{fp:List Addr}(I:Inv X af σ H s)(hf:∀ b∈fp,jf X af H b)(ho:∀ b∈fp,∃ o,s.heap.get? b=some o/\∀ v,o.data≠.cell v):Inv X (af++jW fp s.heap) σ H s:=
 I.cB λp hp=>(zT.mp hp).elim (λz=>I.pin p (zJ _ z)) λz=>by
  obtain ⟨hb,e⟩:=ve z;obtain ⟨f0,f1,f2,_⟩:=hf p.1 hb;obtain ⟨o,e',d⟩:=ho p.1 hb;rw [e] at e';cases e';exact ⟨e,f0,f1,f2,d⟩
theorem Inv.gX {af pl:List (Addr×Obj)}{σ:St}{H:Hp}{s:Shared}(I:Inv X (af++pl) σ H s):Inv X af σ H s:=I.cB λp hp=>I.pin p (zJ _ (zX _ hp))
theorem wF {iter:Expr}{body:List Stmt}{wi:TI}{g:TG}{tb:TS}{pos:Pos}(hp:PassesOwn (model X.prog X.w) X.A X.env X.xe)(hc:X.calm=true)(hi:PI X tg iter wi)(hg:PG X tg g)(hb:mX X body tb)
  (hs:∀ x,foldedSetIterable iter X.env x=pure x:=by intro _;rfl):PS X (.For tg iter body [] pos) (Wa wi g tb):=by
 intro af s σ H D I h;refine wpAny_For (aZ (hi af s σ H _ I h) λv s1 h1=>aZ h1 λWM s2 h2=>?_) hs;obtain ⟨it,fp,tn,J,H2,e,I2,T,T8,f2,W,⟨m0,w0⟩,turn⟩:=h2;subst e
 -- aae stays true of Ra sj objects through Ra loop
 have rq:∀ {H':Hp},(∀ b∈fp,H' b=none)->∀ b∈fp,jf X af H' b:=λhn b hb=>⟨hn b hb,(f2 b hb).2⟩;refine codeAny_forLoop_any (λn s'=>∃ i bu H',Inv X af bu H' s'/\tn i s'.heap/\(∀ b∈fp,H' b=none)/\W i n bu H') ?_ m0 ⟨0,σ,H2,I2,T8,λb hb=>(f2 b hb).1,w0⟩;rintro n s3 ⟨i,Kh,H3,I3,YH,ZX,w3⟩;rcases turn i n Kh H3 w3 with ⟨stop,qn⟩ | ⟨go,N,hN,step⟩
 ·refine wpAny_passesOwn hp (aZ (T.done X rfl rfl rfl hc i af s3 Kh H3 X.xe I3 (rq ZX) YH stop) λr s4 ⟨hr,I4⟩=>?_);subst hr;exact wpAny_execs_nil ⟨Kh,H3,I4,qn⟩
 ·refine wpAny_passesOwn hp (aZ (T.item X rfl rfl rfl hc i af s3 Kh H3 X.xe I3 (rq ZX) YH go) λr s4 ⟨u,hr,h4⟩=>?_);subst hr;refine wpAny_passesOwn hp (aZ h4 λ_ s5 Vu=>?_);obtain ⟨x,H5,I5,r5,y5,Rc,UO⟩:=Vu;have I5':=I5.pinned (rq UO) (T.obj _ _ Rc);refine wpAny_passesOwn hp (aZ (hg _ s5 Kh H5 x u _ I5' r5 (step x H5 y5)) λ_ s6 Vt=>?_);obtain ⟨σ6,H6,I6,q6⟩:=Vt;refine wpAny_passesOwn hp (aZ (hb _ s6 σ6 H6 _ I6 q6) λf s7 q7=>?_);have again:∀ {Kg:St} {H7:Hp},Inv X (af++jW fp s5.heap) Kg H7 s7->N Kg H7->∃ m,m < n/\∃ i bu H',Inv X af bu H' s7/\tn i s7.heap/\(∀ b∈fp,H' b=none)/\W i m bu H':=λ{Kg H7} I7 n7=>by
   obtain ⟨m',hm,w7⟩:=hN Kg H7 n7;refine ⟨m',hm,i + 1,Kg,H7,I7.gX,T.keep _ _ _ Rc λb hb o e=>(I7.pin (b,o) (zJ _ (zJ _ (dX hb e)))).1,λb hb=>?_,w7⟩;obtain ⟨o,e,d⟩:=T.obj _ _ Rc b hb;exact (I7.pin (b,o) (zJ _ (zJ _ (dX hb e)))).2.1
  cases f with
  | next=>obtain ⟨Kg,H7,I7,n7⟩:=q7;exact again I7 n7
  | cont=>obtain ⟨Kg,H7,I7,n7⟩:=q7;exact again I7 n7
  | brk=>obtain ⟨Kg,H7,I7,q7⟩:=q7;exact ⟨Kg,H7,I7.gX,q7⟩
  | ret v=>obtain ⟨x7,Kg,H7,I7,r7,q7⟩:=q7;exact ⟨x7,Kg,H7,I7.gX,r7,q7⟩
end
theorem cF {K:PySem.W.Frag}{a:Addr}{xs:List V}{g:TG}{tb:TS}{D:Ends}{σ:St}{H:Hp}(Pv:Nat->St->Hp->Prop)(h0:Pv 0 σ H)(hl:∀ i σ H,i<=xs.length->Pv i σ H->aG K H a xs)
  (hs:∀ i x σ H,xs[i]?=some x->Pv i σ H->g x σ H fun gT H2=>tb (D.lp (Pv (i + 1))) gT H2) (hd:∀ σ H,Pv xs.length σ H->D.nx σ H) :
  ∃ W:Nat->Nat->St->Hp->Prop,(∃ m,W 0 m σ H)/\∀ i m σ H,W i m σ H ->
   ((Oh K a).stop i H/\D.nx σ H)\/((Oh K a).go i H/\∃ N:St->Hp->Prop,(∀ bu H',N bu H'->∃ m',m' < m/\W (i + 1) m' bu H')/\∀ x H',(Oh K a).qx i H x H'->g x σ H' fun gT H2=>tb (D.lp N) gT H2):=by
 refine ⟨λi m σ H=>m=xs.length - i/\i<=xs.length/\Pv i σ H,⟨xs.length,by simp,zc _,h0⟩,?_⟩;rintro i m σ H ⟨rfl,hi,p⟩;have q:=hl i σ H hi p;by_cases cN:i < xs.length
 ·refine .inr ⟨⟨xs,xs[i],q,by simp [cN]⟩,Pv (i + 1),fun bu H' p'=>⟨xs.length - (i + 1),by omega,rfl,cN,p'⟩,λx H' y=>?_⟩;obtain ⟨e,y⟩:=y;subst e;exact hs i x σ _ (y xs q) p
 ·have e:i=xs.length:=by omega
  subst e;exact .inl ⟨⟨xs,q,zE _⟩,hd σ H p⟩
theorem ud {K:PySem.W.Frag}{a:Addr}{xs:List V}{g:TG}{tb:TS}{D:Ends}{σ:St}{H:Hp}(Pv:Nat->St->Hp->Prop)(h0:Pv 0 σ H)(hl:∀ i σ H,i<=xs.length->Pv i σ H->bq K H a xs)
  (hs:∀ i x σ H,xs[i]?=some x->Pv i σ H->g x σ H fun gT H2=>tb (D.lp (Pv (i + 1))) gT H2) (hd:∀ σ H,Pv xs.length σ H->D.nx σ H) :
  ∃ W:Nat->Nat->St->Hp->Prop,(∃ m,W 0 m σ H)/\∀ i m σ H,W i m σ H ->
   ((Og K a).stop i H/\D.nx σ H)\/((Og K a).go i H/\∃ N:St->Hp->Prop,(∀ bu H',N bu H'->∃ m',m' < m/\W (i + 1) m' bu H')/\∀ x H',(Og K a).qx i H x H'->g x σ H' fun gT H2=>tb (D.lp N) gT H2):=by
 refine ⟨λi m σ H=>m=xs.length - i/\i<=xs.length/\Pv i σ H,⟨xs.length,by simp,zc _,h0⟩,?_⟩;rintro i m σ H ⟨rfl,hi,p⟩;have q:=hl i σ H hi p;by_cases cN:i < xs.length
 ·refine .inr ⟨⟨xs,xs[i],q,by simp [cN]⟩,Pv (i + 1),fun bu H' p'=>⟨xs.length - (i + 1),by omega,rfl,cN,p'⟩,λx H' y=>?_⟩;obtain ⟨e,y⟩:=y;subst e;exact hs i x σ _ (y xs q) p
 ·have e:i=xs.length:=by omega
  subst e;exact .inl ⟨⟨xs,q,zE _⟩,hd σ H p⟩
theorem qD {lo:Int}{n:Nat}{g:TG}{tb:TS}{D:Ends}{σ:St}{H:Hp}(Pv:Nat->St->Hp->Prop)(h0:Pv 0 σ H)
  (hs:∀ i σ H,i < n->Pv i σ H->g (.int (lo + i)) σ H fun gT H2=>tb (D.lp (Pv (i + 1))) gT H2) (hd:∀ σ H,Pv n σ H->D.nx σ H) :
  ∃ W:Nat->Nat->St->Hp->Prop,(∃ m,W 0 m σ H)/\∀ i m σ H,W i m σ H ->
   ((MF lo n).stop i H/\D.nx σ H)\/((MF lo n).go i H/\∃ N:St->Hp->Prop,(∀ bu H',N bu H'->∃ m',m' < m/\W (i + 1) m' bu H')/\∀ x H',(MF lo n).qx i H x H'->g x σ H' fun gT H2=>tb (D.lp N) gT H2):=by
 refine ⟨λi m σ H=>m=n - i/\i<=n/\Pv i σ H,⟨n,by simp,zc _,h0⟩,?_⟩;rintro i m σ H ⟨rfl,hi,p⟩;by_cases cN:i < n
 ·refine .inr ⟨cN,Pv (i + 1),fun bu H' p'=>⟨n - (i + 1),by omega,rfl,cN,p'⟩,λx H' y=>?_⟩;obtain ⟨e,y⟩:=y;subst e y;exact hs i σ _ cN p
 ·have e:i=n:=by omega
  subst e;exact .inl ⟨zE _,hd σ H p⟩
theorem Kn {c:TT}{tb:TS}{D:Ends}{σ:St}{H:Hp}(Pv:St->Hp->Prop)(μ:St->Hp->Nat)(h0:Pv σ H)
  (hs:∀ σ H,Pv σ H->c σ H λb H1=>if b=true then tb (D.lp fun bu H'=>Pv bu H'/\μ bu H' < μ σ H) σ H1 else D.nx σ H1)
  (mono:∀ σ H Q Q',(∀ b H1,Q b H1->Q' b H1)->c σ H Q->c σ H Q'):jL c tb D σ H:=by
 refine ⟨λm σ H=>m=μ σ H/\Pv σ H,⟨_,rfl,h0⟩,?_⟩;rintro m σ H ⟨rfl,p⟩;refine mono σ H _ _ (λb H1 q=>?_) (hs σ H p);cases b with
 | true=>exact ⟨_,fun bu H' ⟨p',l⟩=>⟨_,l,rfl,p'⟩,q⟩
 | false=>exact q
abbrev R2:=V->V->Hp->VK->Prop
def fL (X:Cx)(f:Value->Value->Sem Value)(r:R2):Prop:=
 ∀ (af:List (Addr×Obj)) (s:Shared) (σ:St) (H:Hp) (x y:V) (v u:Value) (Q:VK),Inv X af σ H s->RelV x v->RelV y u->r x y H Q ->
  wpAny (model X.prog X.w) X.A (f v u) (EP X af σ Q) X.xe s
def Ym (X:Cx)(f:Value->Sem Value)(r:V->Hp->VK->Prop):Prop:=
 ∀ (af:List (Addr×Obj)) (s:Shared) (σ:St) (H:Hp) (x:V) (v:Value) (Q:VK),Inv X af σ H s->RelV x v->r x H Q ->
  wpAny (model X.prog X.w) X.A (f v) (EP X af σ Q) X.xe s
def dc (X:Cx)(f:Value)(r:List V->Hp->VK->Prop):Prop:=
 ∀ (af:List (Addr×Obj)) (s:Shared) (σ:St) (H:Hp) (xs:List V) (us:List Value) (Q:VK),Inv X af σ H s->Vals xs us->r xs H Q ->
  wpAny (model X.prog X.w) X.A (call f us) (EP X af σ Q) X.xe s
def Yn (X:Cx)(r:V->Hp->(Bool->Hp->Prop)->Prop):Prop:=
 ∀ (af:List (Addr×Obj)) (s:Shared) (σ:St) (H:Hp) (x:V) (v:Value) (Q:Bool->Hp->Prop),Inv X af σ H s->RelV x v->r x H Q ->
  wpAny (model X.prog X.w) X.A (truthy v) (TP X af σ Q) X.xe s
def M6 (r:R2)(ta tb:TE):TE:=fun σ H Q=>ta σ H λx H1=>tb σ H1 λy H2=>r x y H2 Q
def Pb (r:V->Hp->VK->Prop)(ta:TE):TE:=fun σ H Q=>ta σ H λx H1=>r x H1 Q
def rI (C:Int->Int->Prop)(g:Int->Int->V):R2:=λx y H Q=>∃ i j,x=.int i/\y=.int j/\C i j/\Q (g i j) H
def tL (g:Int->Int->V):R2:=λx y H Q=>∃ i j,x=.int i/\y=.int j/\Q (g i j) H
def rU (g:Int->V):V->Hp->VK->Prop:=λx H Q=>∃ i,x=.int i/\Q (g i) H
section
variable {X:Cx}{a b c:Expr}{ta tb tc:TE}{pos:Pos}
theorem QU (ha:PE X a ta)(hb:PE X b tb){af:List (Addr×Obj)}{s:Shared}{σ:St}{H:Hp}{R:V->V->Hp->Prop}(I:Inv X af σ H s)
  (h:ta σ H λx H1=>tb σ H1 λy H2=>R x y H2) {Q:Value->Shared->Prop}{f:Value->Value->Sem Value}
  (hf:∀ v u s2 x y H2,Inv X af σ H2 s2->RelV x v->RelV y u->R x y H2->wpAny (model X.prog X.w) X.A (f v u) Q X.xe s2) :
  wpAny (model X.prog X.w) X.A (eval a X.env) (λv aN=>wpAny (model X.prog X.w) X.A (eval b X.env) (λu jN=>wpAny (model X.prog X.w) X.A (f v u) Q X.xe jN) X.xe aN) X.xe s:=by
 refine aZ (ha af s σ H _ I h) λv s1 Vs=>?_;obtain ⟨x,H1,I1,r1,q1⟩:=Vs;refine aZ (hb af s1 σ H1 _ I1 q1) λu s2 Vr=>?_;obtain ⟨y,H2,I2,r2,q2⟩:=Vr;exact hf v u s2 x y H2 I2 r1 r2 q2
theorem xj {op:Operator}{r:R2}(ho:fL X (binaryOp op) r)(ha:PE X a ta)(hb:PE X b tb):PE X (.BinOp a op b pos) (M6 r ta tb):=by intro af s σ H Q I h;exact wpAny_BinOp (QU ha hb I h λv u s2 x y H2 I2 rx ry q=>ho af s2 σ H2 x y v u Q I2 rx ry q)
theorem jX {op:UnaryOp}{r:V->Hp->VK->Prop}(ho:Ym X (unaryOp op) r)(ha:PE X a ta):PE X (.UnaryOp op a pos) (Pb r ta):=by intro af s σ H Q I h;exact UnaryOp_ (aZ (ha af s σ H _ I h) λv s1 ⟨x,H1,I1,r1,q1⟩=>ho af s1 σ H1 x v Q I1 r1 q1)
theorem Rh {f:Value->Value->Sem Value}{C:Int->Int->Prop}{g:Int->Int->Int}
  (rule:∀ (i j:Int) (t u:Tok) (s:Shared) (Q:Value->Shared->Prop) (E:Value->Shared->Prop),C i j->Q (.int (g i j) s.toks) { s with toks:=s.toks + 1 }->wpAny (model X.prog X.w) X.A (f (.int i t) (.int j u)) Q E s) :
  fL X f (rI C λi j=>.int (g i j)):=by
 intro af s σ H x y v u Q I rx ry h;obtain ⟨i,j,rfl,rfl,hc,q⟩:=h;obtain ⟨t,rfl⟩:=rx;obtain ⟨t',rfl⟩:=ry;exact rule i j t t' s _ _ hc ⟨.int (g i j),H,I.tok _,⟨_,rfl⟩,q⟩
theorem NF {f:Value->Value->Sem Value}{g:Int->Int->Int}
  (rule:∀ (i j:Int) (t u:Tok) (s:Shared) (Q:Value->Shared->Prop) (E:Value->Shared->Prop),Q (.int (g i j) s.toks) { s with toks:=s.toks + 1 }->wpAny (model X.prog X.w) X.A (f (.int i t) (.int j u)) Q E s) :
  fL X f (tL λi j=>.int (g i j)):=by
 intro af s σ H x y v u Q I rx ry h;obtain ⟨i,j,rfl,rfl,q⟩:=h;obtain ⟨t,rfl⟩:=rx;obtain ⟨t',rfl⟩:=ry;exact rule i j t t' s _ _ ⟨.int (g i j),H,I.tok _,⟨_,rfl⟩,q⟩
theorem NG {f:Value->Value->Sem Value}{g:Int->Int->Bool}
  (rule:∀ (i j:Int) (t u:Tok) (s:Shared) (Q:Value->Shared->Prop) (E:Value->Shared->Prop),Q (.bool (g i j)) s->wpAny (model X.prog X.w) X.A (f (.int i t) (.int j u)) Q E s) :
  fL X f (tL λi j=>.bl (g i j)):=by
 intro af s σ H x y v u Q I rx ry h;obtain ⟨i,j,rfl,rfl,q⟩:=h;obtain ⟨t,rfl⟩:=rx;obtain ⟨t',rfl⟩:=ry;exact rule i j t t' s _ _ ⟨.bl (g i j),H,I,rfl,q⟩
def vU (i j:Int):Prop:=0<=j/\j<=1000000/\i.natAbs < 2 ^ 64
def vV (i j:Int):Prop:=(-(2 ^ 64) < i/\i < 2 ^ 64)\/(-(2 ^ 64) < j/\j < 2 ^ 64)
theorem vV.ok {i j:Int}(h:vV i j):IntMulOk i j:=by
 rcases h with ⟨h1,h2⟩ | ⟨h1,h2⟩
 ·exact .of_left (intBits_le_64 h1 h2)
 ·exact .of_right (intBits_le_64 h1 h2)
theorem qR (k:Nat):(0:Int)<=2 ^ k:=by rw [two_pow_cast];exact yW _
theorem xu:fL X (binaryOp .Add) (tL λi j=>.int (i + j)):=NF λ_ _ _ _ _ _ _ q=>add_int q
theorem cI:fL X (binaryOp .Sub) (tL λi j=>.int (i - j)):=NF λ_ _ _ _ _ _ _ q=>sub_int q
theorem dG:fL X (binaryOp .Mult) (rI vV λi j=>.int (i * j)):=Rh λ_ _ _ _ _ _ _ hc q=>mul_int q hc.ok
theorem fC:fL X (binaryOp .Mod) (rI (λ_ j=>0 < j) λi j=>.int (i % j)):=Rh λi j _ _ _ _ _ hc q=>by
 have h1:(0:Int) < j:=hc;exact mod_int' (by omega) (by rw [Int.fmod_eq_emod_of_nonneg i (by omega)];exact q)
theorem iU:fL X (binaryOp .Pow) (rI vU λi j=>.int (i ^ j.toNat)):=Rh λ_ _ _ _ _ _ _ hc q=>pow_int_small hc.1 hc.2.1 hc.2.2 q
theorem j3:fL X (binaryOp .LShift) (rI vU λi j=>.int (i * 2 ^ j.toNat)):=Rh λ_ _ _ _ _ _ _ hc q=>lshift_int_small hc.1 hc.2.1 hc.2.2 q
theorem PK:fL X (binaryOp .RShift) (rI (λ_ j=>0<=j) λi j=>.int (i / 2 ^ j.toNat)):=Rh λi j _ _ _ _ _ hc q=>
 rshift_int hc (by rw [Int.fdiv_eq_ediv_of_nonneg i (qR _)];exact q)
theorem nE:fL X (binaryOp .BitAnd) (tL λi j=>.int (Builtin.bitAnd i j)):=NF λ_ _ _ _ _ _ _ q=>and_int q
theorem PJ:fL X (binaryOp .BitXor) (tL λi j=>.int (Builtin.bitXor i j)):=NF λ_ _ _ _ _ _ _ q=>xor_int q
theorem unI {f:Value->Sem Value}{g:Int->Int}
  (rule:∀ (i:Int) (t:Tok) (s:Shared) (Q:Value->Shared->Prop) (E:Value->Shared->Prop),Q (.int (g i) s.toks) { s with toks:=s.toks + 1 }->wpAny (model X.prog X.w) X.A (f (.int i t)) Q E s) :
  Ym X f (rU λi=>.int (g i)):=by
 intro af s σ H x v Q I rx h;obtain ⟨i,rfl,q⟩:=h;obtain ⟨t,rfl⟩:=rx;exact rule i t s _ _ ⟨.int (g i),H,I.tok _,⟨_,rfl⟩,q⟩
theorem gE:Ym X (unaryOp .USub) (rU λi=>.int (-i)):=unI λ_ _ _ _ _ q=>neg_int q
end
def Rg:V->Bool
 | .bD=>true | .int _=>true | .bl _=>true | .str _=>true | _=>false
def RU:V->Bool
 | .bD=>true | .int _=>true | .str _=>true | _=>false
def RV:V->Bool
 | .bD=>true | .bl _=>true | .str _=>true | _=>false
def scY:V->Bool
 | .uw _=>true | _=>false
def uV:V->V->Bool
 | .bD,y=>Rg y | .int _,y=>RU y | .bl _,y=>RV y | .str _,y=>Rg y | .uw _,y=>scY y | _,_=>false
def R3:R2:=λx y H Q=>uV x y=true/\Q (.bl (decide (x=y))) H
def R1:R2:=λx y H Q=>uV x y=true/\Q (.bl (!decide (x=y))) H
theorem um {i j:Int}:decide (V.int i=V.int j)=(i == j):=by rw [xH];simp
theorem Mh {i j:Bool}:decide (V.bl i=V.bl j)=(i == j):=by rw [xH];simp
theorem uh {i j:Str}:decide (V.str i=V.str j)=(i == j):=by rw [xH];simp
theorem uq {i j:Array UInt8}:decide (V.uw i=V.uw j)=(i.toList == j.toList):=by rw [xH];cases i;cases j;simp
section
variable {X:Cx}{a b c:Expr}{ta tb tc:TE}{pos:Pos}
theorem wA {af:List (Addr×Obj)}{σ:St}{H:Hp}{s:Shared}{Q:VK}{k k':Bool}(I:Inv X af σ H s)(q:Q (.bl k) H)(e:k=k'):EP X af σ Q (.bool k') s:=by subst e;exact ⟨.bl k,H,I,rfl,q⟩
theorem qH:fL X (compareOp .Eq) R3:=by
 intro af s σ H x y v u Q I rx ry h;obtain ⟨hs,q⟩:=h;cases x with
 | bD=>
  cases rx;cases y with
  | bD=>cases ry;exact PySem.EqNone.eq_none_none (wA I q (by simp))
  | bl j=>cases ry;exact PySem.EqNone.eq_none_bool (wA I q (by simp))
  | int j=>obtain ⟨t',rfl⟩:=ry;exact PySem.EqNone.eq_none_int (wA I q (by simp))
  | str j=>obtain ⟨t',rfl⟩:=ry;exact PySem.EqNone.eq_none_str (wA I q (by simp))
  | _=>exact absurd (show false=true from hs) zM
 | bl i=>
  cases rx;cases y with
  | bD=>cases ry;exact PySem.EqNone.eq_bool_none (wA I q (by simp))
  | bl j=>cases ry;exact eq_bool (wA I q Mh)
  | str j=>obtain ⟨t',rfl⟩:=ry;exact PySem.EqMixed.eq_bool_str (wA I q (by simp))
  | _=>exact absurd (show false=true from hs) zM
 | int i=>
  obtain ⟨t,rfl⟩:=rx;cases y with
  | bD=>cases ry;exact PySem.EqNone.eq_int_none (wA I q (by simp))
  | int j=>obtain ⟨t',rfl⟩:=ry;exact eq_int (wA I q um)
  | str j=>obtain ⟨t',rfl⟩:=ry;exact PySem.EqMixed.eq_int_str (wA I q (by simp))
  | _=>exact absurd (show false=true from hs) zM
 | str i=>
  obtain ⟨t,rfl⟩:=rx;cases y with
  | bD=>cases ry;exact PySem.EqNone.eq_str_none (wA I q (by simp))
  | bl j=>cases ry;exact PySem.EqMixed.eq_str_bool (wA I q (by simp))
  | int j=>obtain ⟨t',rfl⟩:=ry;exact PySem.EqMixed.eq_str_int (wA I q (by simp))
  | str j=>obtain ⟨t',rfl⟩:=ry;exact eq_str (wA I q uh)
  | _=>exact absurd (show false=true from hs) zM
 | uw i=>
  obtain ⟨t,rfl⟩:=rx;cases y with
  | uw j=>obtain ⟨t',rfl⟩:=ry;exact PySem.W.eq_bytes (wA I q uq)
  | _=>exact absurd (show false=true from hs) zM
 | _=>cases y <;> exact absurd (show false=true from hs) zM
theorem eS:fL X (compareOp .NotEq) R1:=by
 intro af s σ H x y v u Q I rx ry h;obtain ⟨hs,q⟩:=h;cases x with
 | bD=>
  cases rx;cases y with
  | bD=>cases ry;exact PySem.EqNone.ne_none_none (wA I q (by simp))
  | bl j=>cases ry;exact PySem.EqNone.ne_none_bool (wA I q (by simp))
  | int j=>obtain ⟨t',rfl⟩:=ry;exact PySem.EqNone.ne_none_int (wA I q (by simp))
  | str j=>obtain ⟨t',rfl⟩:=ry;exact PySem.EqNone.ne_none_str (wA I q (by simp))
  | _=>exact absurd (show false=true from hs) zM
 | bl i=>
  cases rx;cases y with
  | bD=>cases ry;exact PySem.EqNone.ne_bool_none (wA I q (by simp))
  | bl j=>cases ry;exact ne_bool (wA I q (congrArg not Mh))
  | str j=>obtain ⟨t',rfl⟩:=ry;exact PySem.EqMixed.ne_bool_str (wA I q (by simp))
  | _=>exact absurd (show false=true from hs) zM
 | int i=>
  obtain ⟨t,rfl⟩:=rx;cases y with
  | bD=>cases ry;exact PySem.EqNone.ne_int_none (wA I q (by simp))
  | int j=>obtain ⟨t',rfl⟩:=ry;exact ne_int (wA I q (congrArg not um))
  | str j=>obtain ⟨t',rfl⟩:=ry;exact PySem.EqMixed.ne_int_str (wA I q (by simp))
  | _=>exact absurd (show false=true from hs) zM
 | str i=>
  obtain ⟨t,rfl⟩:=rx;cases y with
  | bD=>cases ry;exact PySem.EqNone.ne_str_none (wA I q (by simp))
  | bl j=>cases ry;exact PySem.EqMixed.ne_str_bool (wA I q (by simp))
  | int j=>obtain ⟨t',rfl⟩:=ry;exact PySem.EqMixed.ne_str_int (wA I q (by simp))
  | str j=>obtain ⟨t',rfl⟩:=ry;exact ne_str (wA I q (congrArg not uh))
  | _=>exact absurd (show false=true from hs) zM
 | uw i=>
  obtain ⟨t,rfl⟩:=rx;cases y with
  | uw j=>obtain ⟨t',rfl⟩:=ry;exact PySem.W.ne_bytes (wA I q (congrArg not uq))
  | _=>exact absurd (show false=true from hs) zM
 | _=>cases y <;> exact absurd (show false=true from hs) zM
theorem jj:fL X (compareOp .Lt) (tL λi j=>.bl (decide (i < j))):=NG λ_ _ _ _ _ _ _ q=>lt_int q
theorem j4:fL X (compareOp .LtE) (tL λi j=>.bl (decide (i<=j))):=NG λ_ _ _ _ _ _ _ q=>le_int q
theorem eU:fL X (compareOp .Gt) (tL λi j=>.bl (decide (j < i))):=NG λ_ _ _ _ _ _ _ q=>gt_int q
theorem Lf:fL X (compareOp .GtE) (tL λi j=>.bl (decide (j<=i))):=NG λ_ _ _ _ _ _ _ q=>ge_int q
theorem aB (b:Expr){op:CmpOp}(h:op≠.In:=by decide)(h2:op≠.NotIn:=by decide):behindInMarks op b=false:=by
 have e1:(op == CmpOp.In)=false:=by cases op <;> first | rfl | exact absurd rfl h
 have e2:(op == CmpOp.NotIn)=false:=by cases op <;> first | rfl | exact absurd rfl h2
 cases b <;> simp [behindInMarks,e1,e2]
theorem dW {op:CmpOp}{r:R2}(ho:fL X (compareOp op) r)(ha:PE X a ta)(hb:PE X b tb)(hm:behindInMarks op b=false):PE X (.Compare a [op] [b] pos) (M6 r ta tb):=by intro af s σ H Q I h;exact wpAny_Compare1 (QU ha hb I h λv u s2 x y H2 I2 rx ry q=>ho af s2 σ H2 x y v u Q I2 rx ry q) hm
def lV (t:TE):TT:=fun σ H Q=>t σ H λx H'=>∃ k,x=.bl k/\Q k H'
theorem xo {op:CmpOp}{r:R2}(ho:fL X (compareOp op) r)(ha:PE X a ta)(hb:PE X b tb)(hm:behindInMarks op b=false):PT X (.Compare a [op] [b] pos) (lV (M6 r ta tb)):=by intro af s σ H Q I h;refine wpAny_isTrue_Compare1 (aZ (ha af s σ H _ I h) λv s1 Vq=>?_) hm;obtain ⟨x,H1,I1,r1,q1⟩:=Vq;refine aZ (hb af s1 σ H1 _ I1 q1) λu s2 Vp=>?_;obtain ⟨y,H2,I2,r2,q2⟩:=Vp;refine aZ (ho af s2 σ H2 x y v u _ I2 r1 r2 q2) λc s3 Vo=>?_;obtain ⟨z,H3,I3,r3,k,e,q3⟩:=Vo;subst e;cases r3;exact wpAny_truthy_bool ⟨H3,I3,q3⟩
def iQ (r r':R2)(ta tb tc:TE):TE:=fun σ H Q=>ta σ H λx H1=>tb σ H1 λy H2=>r x y H2 λz H3=>∃ k,z=.bl k /\
 (if k=true then tc σ H3 λw' H4=>r' y w' H4 Q else Q (.bl false) H3)
theorem Lb {op PN:CmpOp}{r r':R2}(ho:fL X (compareOp op) r)(pX:fL X (compareOp PN) r')(ha:PE X a ta)(hb:PE X b tb)(hc:PE X c tc)
  (hm:lastMarks [op,PN] [b,c]=false:=by with_unfolding_all rfl):PE X (.Compare a [op,PN] [b,c] pos) (iQ r r' ta tb tc):=by
 intro af s σ H Q I h;refine Compare_chain (aZ (ha af s σ H _ I h) λv s1 Vn=>?_) hm;obtain ⟨x,H1,I1,r1,q1⟩:=Vn;refine chain_link (aZ (hb af s1 σ H1 _ I1 q1) λu s2 Vm=>?_);obtain ⟨y,H2,I2,r2,q2⟩:=Vm;refine aZ (ho af s2 σ H2 x y v u _ I2 r1 r2 q2) λd s3 Vl=>?_;obtain ⟨z,H3,I3,r3,k,e,q3⟩:=Vl;subst e;cases r3;refine wpAny_truthy_bool ?_;cases k with
 | false=>exact ite_ff ⟨.bl false,H3,I3,rfl,q3⟩
 | true=>exact ite_tt (chain_last (aZ (hc af s3 σ H3 _ I3 q3) λw' s4 ⟨z',H4,I4,r4,q4⟩=>pX af s4 σ H4 y z' u w' Q I4 r2 r4 q4))
theorem K3 {op PN:CmpOp}{r r':R2}(ho:fL X (compareOp op) r)(pX:fL X (compareOp PN) r')(ha:PE X a ta)(hb:PE X b tb)(hc:PE X c tc)
  (hm:lastMarks [op,PN] [b,c]=false:=by with_unfolding_all rfl):PT X (.Compare a [op,PN] [b,c] pos) (lV (iQ r r' ta tb tc)):=by
 intro af s σ H Q I h;refine isTrue_chain (aZ (ha af s σ H _ I h) λv s1 Vk=>?_) hm;obtain ⟨x,H1,I1,r1,q1⟩:=Vk;refine test_link (aZ (hb af s1 σ H1 _ I1 q1) λu s2 Vj=>?_);obtain ⟨y,H2,I2,r2,q2⟩:=Vj;refine aZ (ho af s2 σ H2 x y v u _ I2 r1 r2 q2) λd s3 Vi=>?_;obtain ⟨z,H3,I3,r3,k,e,q3⟩:=Vi;subst e;cases r3;refine wpAny_truthy_bool ?_;cases k with
 | false=>
  obtain ⟨k',e',q'⟩:=q3;cases e';exact ite_ff ⟨H3,I3,q'⟩
 | true=>
  refine ite_tt (test_last (aZ (hc af s3 σ H3 _ I3 q3) λw' s4 Vh=>?_));obtain ⟨z',H4,I4,r4,q4⟩:=Vh;refine aZ (pX af s4 σ H4 y z' u w' _ I4 r2 r4 q4) λd' s5 Vg=>?_;obtain ⟨z2,H5,I5,r5,k2,e2,q5⟩:=Vg;subst e2;cases r5;exact wpAny_truthy_bool ⟨H5,I5,q5⟩
def Tv (K:PySem.W.Frag)(x:V)(H:Hp)(k:Bool):Prop:=
 match x with
 | .bD=>k=false
 | .bl b=>k=b
 | .int i=>k=(i != 0)
 | .str y=>y.length<=sizeLine/\k=((y.length:Int) != 0)
 | .uw y=>y.size<=sizeLine/\k=((y.size:Int) != 0)
 | .ref p=>(∃ xs,aG K H p xs/\k=!xs.isEmpty)\/(∃ xs,bq K H p xs/\k=!xs.isEmpty)\/∃ aF,H p=some (.dK aF)/\k=!aF.isEmpty
 | _=>False
theorem sr {κ:Type}{aF:List (κ×V)}{vs:List (κ×Value)}(r:KV aF vs):(!vs.isEmpty)=!aF.isEmpty:=by cases r <;> rfl
theorem j8 {xs:List V}{ay:List Value}(r:Vals xs ay):(!ay.toArray.isEmpty)=!xs.isEmpty:=by cases r <;> simp
theorem iW:(sizeLine:Nat) < 2 ^ 63:=by rw [sizeLine_eq];decide
theorem O5:Yn X (λx H Q=>∃ k,Tv X.K x H k/\Q k H):=by
 intro af s σ H x v Q I rx h;obtain ⟨k,e,q⟩:=h;have hl:=iW;have hs:sizeLine=16777216:=sizeLine_eq;cases x with
 | bD=>
  cases rx;have e':k=false:=e;subst e';exact truthy_none ⟨H,I,q⟩
 | bl b=>
  cases rx;have e':k=b:=e;subst e';exact wpAny_truthy_bool ⟨H,I,q⟩
 | int i=>
  obtain ⟨t,rfl⟩:=rx;have e':k=(i != 0):=e;subst e';exact PySem.P.truthy_int ⟨H,I,q⟩
 | str y=>
  obtain ⟨t,rfl⟩:=rx;obtain ⟨hy,e'⟩:y.length<=sizeLine/\k=((y.length:Int) != 0):=e;subst e';exact PySem.P.truthy_str (by omega) ⟨H,I.tok _,q⟩
 | uw y=>
  obtain ⟨t,rfl⟩:=rx;obtain ⟨hy,e'⟩:y.size<=sizeLine/\k=((y.size:Int) != 0):=e;subst e';exact PySem.W.truthy_bytes (by omega) ⟨H,I.tok _,q⟩
 | ref p=>
  cases rx;have e':(∃ xs,aG X.K H p xs/\k=!xs.isEmpty)\/(∃ xs,bq X.K H p xs/\k=!xs.isEmpty)\/∃ aF,H p=some (.dK aF)/\k=!aF.isEmpty:=e;rcases e' with ⟨xs,hx,e'⟩ | ⟨xs,hx,e'⟩ | ⟨aF,hx,e'⟩
  ·subst e';obtain ⟨ay,r,pl,hz⟩:=I.list hx;have hlen:=r.length;exact wpAny_truthy_list pl.isList (by simp only [zO];omega) ⟨H,I.tok _,by rw [j8 r];exact q⟩
  ·subst e';obtain ⟨ay,r,pl,hz⟩:=I.tuple hx;have hlen:=r.length;exact truthy_tuple pl (by simp only [zO];omega) ⟨H,I.tok _,by rw [j8 r];exact q⟩
  ·subst e';obtain ⟨hz,hS,vs,r,m⟩:aF.length<=sizeLine/\(p == sysModules)=false/\∃ vs,KV aF vs/\s.heap.DictOf (bH X.prog X.w) p vs:=I.aY p _ hx;have hlen:aF.length=vs.length:=Paired.length r;exact wpAny_truthy_dict hS m (by omega) ⟨H,I.tok _,by rw [sr r];exact q⟩
 | _=>exact (show False from e).elim
theorem pD (ha:PE X a ta)(he:∀ whole,isTrue a X.env whole=(do let v <- whole;standAt a.pos;holding [v] (truthy v))) :
  PT X a (fun σ H Q=>ta σ H λx H'=>∃ k,Tv X.K x H' k/\Q k H'):=by
 intro af s σ H Q I h;exact isTrue_plain (aZ (ha af s σ H _ I h) λv s1 ⟨x,H1,I1,r1,q1⟩=>O5 af s1 σ H1 x v Q I1 r1 q1) (he _)
theorem vals1 {x:V}{us:List Value}(r:Vals [x] us):∃ u,us=[u]/\RelV x u:=by
 cases r with
 | cons r1 r2=>cases r2;exact ⟨_,rfl,r1⟩
theorem vals2 {x y:V}{us:List Value}(r:Vals [x,y] us):∃ u w',us=[u,w']/\RelV x u/\RelV y w':=by
 cases r with
 | cons r1 r2=>
  cases r2 with
  | cons r3 r4=>cases r4;exact ⟨_,_,rfl,r1,r3⟩
theorem i9 (hc:X.calm=true):dc X (.builtin "max") (λxs H Q=>∃ i j,xs=[.int i,.int j]/\Q (.int (if j > i then j else i)) H):=by
 intro af s σ H xs us Q I r h;obtain ⟨i,j,rfl,q⟩:=h;obtain ⟨u,w',rfl,⟨t,rfl⟩,⟨t',rfl⟩⟩:=vals2 r;refine max_two_ints (I.ok.hd hc) λh' tk k=>⟨_,H,I.kept k,?_,q⟩;by_cases hj:j > i
 ·rw [if_pos hj,if_pos hj];exact ⟨_,rfl⟩
 ·rw [if_neg hj,if_neg hj];exact ⟨_,rfl⟩
theorem i8 (hc:X.calm=true):dc X (.builtin "min") (λxs H Q=>∃ i j,xs=[.int i,.int j]/\Q (.int (if j < i then j else i)) H):=by
 intro af s σ H xs us Q I r h;obtain ⟨i,j,rfl,q⟩:=h;obtain ⟨u,w',rfl,⟨t,rfl⟩,⟨t',rfl⟩⟩:=vals2 r;refine min_two_ints (I.ok.hd hc) λh' tk k=>⟨_,H,I.kept k,?_,q⟩;by_cases hj:j < i
 ·rw [if_pos hj,if_pos hj];exact ⟨_,rfl⟩
 ·rw [if_neg hj,if_neg hj];exact ⟨_,rfl⟩
end
structure Q4 (h:Heap) (x dx C:Addr) (mA:Str->Option Value):Prop where
 obj:h.get? x=some (PySem.W.instObj C dx)
 ns:h.Ns1 dx mA
 ne:dx≠x
theorem vj {h:Heap}{dx:Addr}{mA:Str->Option Value}(n:h.Ns1 dx mA):∃ od,h.get? dx=some od/\∀ name,PySem.W.lookIn name od=some (mA name):=by
 obtain ⟨o,es,ep,ho,hd,hk,_,hm⟩:=n;refine ⟨o,ho,λname=>?_⟩;have e:=hm name;unfold nsFind findBy at e;rw [<-Array.find?_toList] at e;unfold PySem.W.lookIn;rw [hd];dsimp only;split
 ·rename_i y q;rw [q] at e;exact congrArg some e
 ·rename_i q;rw [q] at e;have a:es.toList.any (·.refKey)=false:=by
   rw [List.any_eq_false];intro y hy;obtain ⟨z,t,Xx⟩:=hk y (Array.mem_toList_iff.mp hy);simp [DictEntry.refKey,Xx]
  have a':¬ es.toList.any (·.refKey)=true:=by rw [a];exact zM
  rw [if_neg a'];exact congrArg some e
theorem Q4.look {h:Heap}{x dx C:Addr}{mA:Str->Option Value}(I:Q4 h x dx C mA):∃ od,PySem.W.InstAt h x (PySem.W.instObj C dx) C (some od)/\∀ name,PySem.W.lookIn name od=some (mA name):=
 let ⟨od,ho,hl⟩:=vj I.ns
 ⟨od,⟨I.obj,rfl,rfl,ho⟩,hl⟩
section
variable {prog:Program}{w:World}{A:Around}{E:Value->Shared->Prop}{s:Shared}{K:PySem.W.Frag}{x dx C f:Addr}{mA:Str->Option Value}{name:Str}{v:Value}
end
theorem kP.some_of {v:V}{o:Option Value}(r:kP (some v) o):∃ u,o=some u/\RelV v u:=by
 cases o with
 | none=>exact (show False from r).elim
 | some u=>exact ⟨u,rfl,r⟩
section
variable {P:Program}{w:World}{H H':Hp}{h h':Heap}{a C dx:Addr}{fs fs':List (Str×V)}
theorem NR (aY:fZ P w H h)(e:H a=some (.ins C dx fs)):∃ mA,Q4 h a dx C mA/\(∀ f,kP (fs.lookup f) (mA f))/\PySem.Within mA (fs.map (·.1))/\fs.length<=1000/\H dx=some (.own a):=by obtain ⟨d,z,ne,ob,mA,n,r,q⟩:=(show aW P w H h a (.ins C dx fs) from aY a _ e);exact ⟨mA,⟨ob,n,ne⟩,r,q,z,d⟩
end
structure Yv (K:PySem.W.Frag) (C:Addr):Prop where
 pg:PySem.W.plainGet K C Str.empty=true
 hd:PySem.W.hasDictIn K C=true
 po:PySem.W.plainOver K C=true
 sa:PySem.W.findIn K (.ref C) "__setattr__" = some (some (.builtin "object.__setattr__"))
theorem Yv.get {K:PySem.W.Frag}{C:Addr}(c:Yv K C)(f:Str):PySem.W.plainGet K C f=true:=c.pg
section
variable {X:Cx}{af:List (Addr×Obj)}{σ:St}{H:Hp}{s:Shared}{a C dx:Addr}{fs:List (Str×V)}{f:Str}{v:V}{A:Around}{E:Value->Shared->Prop}
end
section
variable {X:Cx}{o e value:Expr}{f:Str}{pos pos' O7:Pos}{ta tv:TE}
end
section
variable {X:Cx}{af:List (Addr×Obj)}{σ:St}{H:Hp}{s:Shared}{A:Around}{E:Value->Shared->Prop}{Q:Value->Shared->Prop}{c:Value}{b:Bool}
inductive jc (K:PySem.W.Frag) (H:Hp):V->Value->Prop where
 | bD:jc K H .bD (.type "NoneType")
 | bl (x:Bool):jc K H (.bl x) (.type "bool")
 | int (i:Int):jc K H (.int i) (.type "int")
 | str (x:Str):jc K H (.str x) (.type "str")
 | MY (x:UInt64):jc K H (.MY x) (.type "float")
 | lst {a:Addr}{xs:List V} (e:H a=some (.lst xs)):jc K H (.ref a) (.type "list")
 | nN {a:Addr}{o:Obj}{xs:List V} (e:H a=some (.nN o (.lst xs))):jc K H (.ref a) (.type "list")
 | tup {a:Addr}{xs:List V} (e:H a=some (.tup xs)):jc K H (.ref a) (.type "tuple")
 | dK {a:Addr}{aF:List (Key×V)} (e:H a=some (.dK aF)):jc K H (.ref a) (.type "dict")
 | dT {a:Addr}{aF:List (List Key×V)} (e:H a=some (.dT aF)):jc K H (.ref a) (.type "dict")
 | ins {a C dx:Addr}{fs:List (Str×V)} (e:H a=some (.ins C dx fs)) (cl:Yv K C) (ha:PySem.W.findIn K (.ref C) "__class__" = some (some (.builtin "object.__class__")))
   (hn:PySem.W.specialIn K (.builtin "object.__class__") "__get__" = some (some (.builtin "getset_descriptor.__get__"))) (UA:PySem.W.takesIn K (.builtin "object.__class__")=some true)
   (hm:PySem.W.mroIn K C (.type "object")=some true):jc K H (.ref a) (.ref C)
theorem mC {x:V}{u t:Value}(I:Inv X af σ H s)(rx:RelV x u)(ty:jc X.K H x t)(e:PySem.W.kitOne X.K t c=some b)(h:∀ tk,Q (.bool b) { s with toks:=tk }) :
  wpAny (model X.prog X.w) A (call (.builtin "isinstance") [u,c]) Q E s:=by
 cases ty with
 | bD=>cases (show u=Value.none from rx);exact yD PySem.W.kitx_none I.oE True.intro e (λz=>nomatch z) h
 | bl y=>cases (show u=Value.bool y from rx);exact yD PySem.W.kitx_bool I.oE True.intro e (λz=>nomatch z) h
 | int i=>obtain ⟨t,q⟩:=(show ∃ t,u=Value.int i t from rx);cases q;exact yD PySem.W.kitx_int I.oE True.intro e (λz=>nomatch z) h
 | str y=>obtain ⟨t,q⟩:=(show ∃ t,u=Value.str y t from rx);cases q;exact yD PySem.W.kitx_str I.oE True.intro e (λz=>nomatch z) h
 | MY y=>obtain ⟨t,q⟩:=(show ∃ t,u=Value.float y t from rx);cases q;exact yD PySem.W.kitx_float I.oE True.intro e (λz=>nomatch z) h
 | @lst a xs ea=>
  cases (show u=Value.ref a from rx);obtain ⟨_,_,n,_,h1⟩:=(show aW X.prog X.w H s.heap a (.lst xs) from I.aY a _ ea);exact yD PySem.W.kitx_list I.oE ⟨_,h1,rfl⟩ e (λz=>nomatch z) h
 | @nN a ob xs ea=>
  cases (show u=Value.ref a from rx);obtain ⟨_,_,_,n,_,h1⟩:=(show aW X.prog X.w H s.heap a (.nN ob (.lst xs)) from I.aY a _ ea);exact yD PySem.W.kitx_list I.oE ⟨_,h1,rfl⟩ e (λz=>nomatch z) h
 | @tup a xs ea=>
  cases (show u=Value.ref a from rx);obtain ⟨_,_,_,p⟩:=(show aW X.prog X.w H s.heap a (.tup xs) from I.aY a _ ea);obtain ⟨o,h1,h2,_⟩:=p;exact yD PySem.W.kitx_tuple I.oE ⟨o,h1,h2⟩ e (λz=>nomatch z) h
 | @dK a aF ea=>
  cases (show u=Value.ref a from rx);obtain ⟨_,_,vs,_,p⟩:=(show aW X.prog X.w H s.heap a (.dK aF) from I.aY a _ ea);obtain ⟨o,es,ep,h1,h2,_⟩:=p;exact yD PySem.W.kitx_dict I.oE ⟨o,h1,h2.1⟩ e (λz=>nomatch z) h
 | @dT a aF ea=>
  cases (show u=Value.ref a from rx);obtain ⟨_,_,xs,_,o,es,ep,h1,h2,_⟩:=(show aW X.prog X.w H s.heap a (.dT aF) from I.aY a _ ea);exact yD PySem.W.kitx_dict I.oE ⟨o,h1,h2.1⟩ e (λz=>nomatch z) h
 | @ins a C dx fs ea cl ha hn UA hm=>
  cases (show u=Value.ref a from rx);obtain ⟨mA,O,_⟩:=NR I.aY ea;obtain ⟨od,J,_⟩:=O.look;exact yD (PySem.W.kitx_own (cl.get _) cl.hd ha hn UA hm) I.oE J e (λz=>nomatch z) h
end
structure c8 (k:Nat) (A:Around):Prop where
 hd:A.handled=none
 dp:A.depth + 3 * k + 5 < recursionLimit
 un:A.units + 16 * k + 200 < cLine
 gd:A.guards=some []
theorem c8.mono {j k:Nat}{A:Around}(r:c8 k A)(h:j<=k):c8 j A:=⟨r.hd,by have:=r.dp;omega,by have:=r.un;omega,r.gd⟩
theorem c8.deeper {k:Nat}{A:Around}(r:c8 (k + 1) A)(env:Env):c8 k (A.deeper env):=
 ⟨r.hd,by have:=r.dp;show A.depth + 1 + 3 * k + 5 < _;omega,by have:=r.un;show A.units + 3 + 16 * k + 200 < _;omega,r.gd⟩
theorem c8.in1 {k:Nat}{A:Around}(r:c8 (k + 1) A):c8 k A.in1:=
 ⟨r.hd,by have:=r.dp;show A.depth + 3 * k + 5 < _;omega,by have:=r.un;show A.units + 1 + 16 * k + 200 < _;omega,r.gd⟩
theorem c8.depth {k:Nat}{A:Around}(r:c8 k A):A.depth < recursionLimit:=by have:=r.dp;omega
theorem c8.units {k:Nat}{A:Around}(r:c8 k A):A.units + 64 < cLine:=by have:=r.un;omega
def rj:TA:=λ_ H Q=>Q [] H
def jM (ta:TE)(tr:TA):TA:=fun σ H Q=>ta σ H λx H1=>tr σ H1 λxs H2=>Q (x::xs) H2
section
variable {X:Cx}{e:Expr}{es:List Expr}{te:TE}{t:TA}{pos:Pos}
theorem cg:PA X [] rj:=λ_ _ _ _ H Q I h=>Calls.spliced_nil ⟨[],H,I,.nil,h⟩
theorem Nz (ha:PE X e te)(hr:PA X es t)(hs:starEach (e::es) X.env=(false,eval e X.env)::starEach es X.env:=by rfl):PA X (e::es) (jM te t):=by intro pos af s σ H Q I h;rw [hs];show wpAny _ _ (spliced ((false,eval e X.env)::backTo pos (starEach es X.env))) _ _ s;refine Calls.spliced_cons (aZ (ha af s σ H _ I h) λu s1 Vf=>?_);obtain ⟨x,H1,I1,r1,q1⟩:=Vf;exact aZ (hr pos af s1 σ H1 _ I1 q1) λus s2 ⟨xs,H2,I2,r2,q2⟩=>⟨x::xs,H2,I2,.cons r1 r2,q2⟩
def Kw (t:TA):TE:=fun σ H Q=>t σ H λxs H1=>xs.length<=sizeLine/\∀ p,H1 p=none->Q (.ref p) (upd H1 p (.tup xs))
def KC (t:TA):TE:=fun σ H Q=>t σ H λxs H1=>xs.length<=sizeLine/\∀ p,H1 p=none->Q (.ref p) (upd H1 p (.lst xs))
theorem wB {x1}(h:PA X es t):PE X (.Tuple es x1 pos) (Kw t):=by intro af s σ H Q I hq;refine wpAny_Tuple_spliced (aZ (h pos af s σ H _ I hq) λus s1 Ve=>?_);obtain ⟨xs,H1,I1,r,z,q⟩:=Ve;refine ⟨by rw [<-r.length];exact z,?_⟩;have hf:H1 s1.heap.objs.size=none:=I1.aY.fresh (zE _);refine ⟨.ref s1.heap.objs.size,upd H1 s1.heap.objs.size (.tup xs),I1.laid (t':=s1.toks) (λb u e=>Heap.get?_push_of_some _ e) (zE _) ?_,rfl,q _ hf⟩;exact ⟨⟨z,j7⟩,us,r,⟨_,Heap.get?_push_size _ rfl,rfl,_,rfl⟩⟩
theorem wI (h:PA X es t):PE X (.List es pos) (KC t):=by intro af s σ H Q I hq;refine wpAny_List_spliced (aZ (h pos af s σ H _ I hq) λus s1 Vd=>?_);obtain ⟨xs,H1,I1,r,z,q⟩:=Vd;refine ⟨by rw [<-r.length];exact z,?_⟩;have hf:H1 s1.heap.objs.size=none:=I1.aY.fresh (zE _);refine ⟨.ref s1.heap.objs.size,upd H1 s1.heap.objs.size (.lst xs),I1.laid (t':=s1.toks) (λb u e=>Heap.get?_push_of_some _ e) (zE _) ?_,rfl,q _ hf⟩;exact ⟨z,us,0,r,Heap.get?_push_size _ rfl⟩
end
abbrev Sp:=List V->Hp->VK->XK->Prop
abbrev MJ:=List Env->Hp->Shared->XK->Value->Shared->Prop
structure sZ (P:Program) (w:World) (K:PySem.W.Frag) (mg:Str->Option Value) (base:Heap) (A:Around) (outer:List Env) (s:Shared) (H:Hp):Prop where
 frames:A.frames=some outer
 mod:Mod K mg base
 bs:∀ b o,base.get? b=some o->s.heap.get? b=some o/\H b=none
 Mq:base.objs.size<=s.heap.objs.size
 i0:s.heap.FunFrames base outer
 QH:∀ b∈vY outer,H b=none
 aY:fZ P w H s.heap
 bare:AllBare s.gens
def CE (outer:List Env)(P:Program)(w:World)(H:Hp)(s:Shared)(Q:VK)(u:Value)(s':Shared):Prop:=
 ∃ v H',s'.os=s.os/\AllBare s'.gens/\Un (vY outer) [] H H' s.heap s'.heap/\fZ P w H' s'.heap/\RelV v u/\Q v H'
def CR (CX:MJ)(outer:List Env)(P:Program)(w:World)(H:Hp)(s:Shared)(Q:VK)(E:XK)(r:Result)(s':Shared):Prop:=
 match r with
 | .ok (.ret u)=>CE outer P w H s Q u s'
 | .ok _=>False
 | .error e=>CX outer H s E e s'
structure aO (P:Program) (w:World) (K:PySem.W.Frag) (mg:Str->Option Value) (base:Heap) (CX:MJ) (k:Nat) (f:Addr) (fd:FuncData) (ps:List Str) (sp:Sp):Prop where
 len:∀ vs H Q E,sp vs H Q E->vs.length=ps.length
 run:∀ (A:Around) (outer:List Env) (s:Shared) (H:Hp) (args:Args) (us:List Value) (vs:List V) (Q:VK) (E:XK),c8 k A->sZ P w K mg base A outer s H->BindsTo s fd args (ps.zip us)->Vals vs us->sp vs H Q E ->
  codeAny (model P w) A (.call (.ref f) args) (CR CX outer P w H s Q E) s
theorem sZ.in1 {P:Program}{w:World}{K:PySem.W.Frag}{mg:Str->Option Value}{base:Heap}{A:Around}{outer:List Env}{s:Shared}{H:Hp}(e:sZ P w K mg base A outer s H) :
  sZ P w K mg base A.in1 outer s H:=⟨e.frames,e.mod,e.bs,e.Mq,e.i0,e.QH,e.aY,e.bare⟩
section
variable {X:Cx}{af:List (Addr×Obj)}{σ:St}{H:Hp}{s s':Shared}
theorem Inv.Te (I:Inv X af σ H s):sZ X.prog X.w X.K X.mg X.base X.A X.stack s H:=
 ⟨I.ok.frames,I.ok.mod,I.bs,zz I.ok.Mq I.sz,I.stack,I.m9,I.aY,I.bare⟩
theorem Inv.after {Q:VK}{u:Value}(I:Inv X af σ H s)(h:CE X.stack X.prog X.w H s Q u s'):EP X af σ Q u s':=by obtain ⟨v,H',os,bare,un,aY,r,q⟩:=h;obtain ⟨hh,g,d,t,os'⟩:=s';obtain rfl:os'=s.os:=os;exact ⟨v,H',I.call (h':=hh) (g':=g) (d':=d) (t':=t) (ch:=[]) un aY bare (λb z=>absurd z (by simp)),r,q⟩
end
def oX (sp:Sp)(OR:List V)(E:XK)(t:TA):TE:=fun σ H Q=>t σ H λvs H1=>sp (vs++OR) H1 Q E
def Binds (K:PySem.W.Frag)(fd:FuncData)(ps:List Str)(ds:List Value):Prop:=
 ∀ (s:Shared) (us:List Value),K.In s.heap->(us++ds).length=ps.length->BindsTo s fd ⟨us,[]⟩ (ps.zip (us++ds))
theorem Binds.all {K:PySem.W.Frag}{fd:FuncData}{ps:List Str}(h:∀ us:List Value,us.length=ps.length->bindArgs fd ⟨us,[]⟩=pure (ps.zip us)):Binds K fd ps []:=λs us _ hl=>by
 rw [yp] at hl ⊢;exact .of_eq (h us hl)
def Passes (CX:MJ)(X:Cx)(E:XK):Prop:=∀ (af:List (Addr×Obj)) (σ:St) (H:Hp) (s:Shared) (e:Value) (s':Shared),Inv X af σ H s->CX X.stack H s E e s'->X.xe e s'
section
variable {X:Cx}{CX:MJ}{k:Nat}{f C:Addr}{fd:FuncData}{ps:List Str}{sp:Sp}{OR:List V}{ds:List Value}{E:XK}{x m:Str}{p pos apos:Pos}{e o:Expr}{es:List Expr}{ta:TE}{t:TA}
theorem Pr {af:List (Addr×Obj)}{σ:St}{H:Hp}{s:Shared}{Q:VK}{us:List Value}{vs:List V}(F:aO X.prog X.w X.K X.mg X.base CX k f fd ps sp)(hr:c8 k X.A)(hb:Binds X.K fd ps ds)(hd:Vals OR ds)(hx:Passes CX X E)
  (I:Inv X af σ H s) (r:Vals vs us) (h:sp (vs++OR) H Q E):wpAny (model X.prog X.w) X.A (call (.ref f) us) (EP X af σ Q) X.xe s:=by
 have r2:Vals (vs++OR) (us++ds):=r.append hd;have hl:(us++ds).length=ps.length:=by rw [<-r2.length];exact F.len _ _ _ _ h
 refine wpAny_call (codeAny_mono (F.run X.A X.stack s H ⟨us,[]⟩ (us++ds) (vs++OR) Q E hr I.Te (hb s us I.oE hl) r2 h) λr s' hq=>?_);cases r with
 | error e=>exact hx af σ H s e s' I hq
 | ok fl=>
  cases fl with
  | ret u=>exact I.after hq
  | next=>exact False.elim hq
  | brk=>exact False.elim hq
  | cont=>exact False.elim hq
theorem xZ (F:aO X.prog X.w X.K X.mg X.base CX k f fd ps sp)(hr:c8 k X.A)(hg:Gl X x)(hm:X.mg x=some (.ref f))(hk:zI X.K (.ref f)=true)(hb:Binds X.K fd ps ds)(hd:Vals OR ds)(hx:Passes CX X E)
  (ha:PA X (e::es) t) (SY:(x == ("__debug__" : Str))=false:=by decide) (he:starEach (e::es) X.env=(false,eval e X.env)::starEach es X.env:=by rfl) (Rm:(backTo pos (starEach es X.env)).any (·.1)=false:=by rfl) :
  PE X (.Call (.Name x p) (e::es) [] pos) (oX sp OR E t):=by
 intro af s σ H Q I h;refine wpAny_Call_Name_kw (tW I hg hm ?_ SY);refine PySem.W.callWith_K (h₀:=X.base) I.ok.mod.WK hk (aZ (ha pos af s σ H _ I h) λus s1 Vc=>?_) he Rm;obtain ⟨vs,H1,I1,r,q⟩:=Vc;refine ⟨I1.oE,?_⟩;exact Pr F hr hb hd hx I1 r q
end
section
variable {X:Cx}{CX:MJ}{k:Nat}{f C:Addr}{fd:FuncData}{ps ks:List Str}{sp:Sp}{E:XK}{x m:Str}{p pos apos aa6:Pos}{e o:Expr}{es:List Expr}{kws:List Keyword}{te ta:TE}{t tk:TA}{nm:Option Str}
variable {g:List Value->List Value->List Value}{gV:List V->List V->List V}
end
structure aA (N P:List Str) (sc:Scope):Prop where
 kind:sc.kind=.function
 co:sc.isCoroutine=false
 gen:sc.isGenerator=false
 nd:N.Nodup
 pre:N.take P.length=P
 par:∀ x∈P,sc.names.lookup x=some .local\/sc.names.lookup x=some .cell
 PU:∀ y∈sc.names,y.2≠.free
theorem mS {kindOf:Str->Option NameKind}{x:Str}:∀ {binds:List (Str×Value)}{m:Str->Option Value},(∀ v,(x,v) ∉ binds)->bindL kindOf binds m x=m x
 | [],_,_=>rfl
 | (n,v)::r,m,h=>by
  unfold bindL;rw [mS λw hw=>h w (zw _ hw)];split
  ·have:x≠n:=by rintro rfl;exact h v yN
   simp [this]
  ·rfl
theorem mU {kindOf:Str->Option NameKind}{x:Str}:∀ {binds:List (Str×Value)}{m:Str->Option Value},(∀ v,(x,v) ∉ binds)->bindC kindOf binds m x=m x
 | [],_,_=>rfl
 | (n,v)::r,m,h=>by
  unfold bindC;rw [mU λw hw=>h w (zw _ hw)];split
  ·rfl
  ·have:x≠n:=by rintro rfl;exact h v yN
   simp [this]
theorem mT {kindOf:Str->Option NameKind}{x:Str}{v:Value}:∀ {P:List Str}{vs:List Value}{i:Nat}{m:Str->Option Value},P.Nodup->P[i]?=some x->vs[i]?=some v->kindOf x=some .local ->
  bindL kindOf (P.zip vs) m x=some v
 | [],_,_,_,_,h,_,_=>by simp at h
 | _::_,[],_,_,_,_,h,_=>by simp at h
 | p::P,w::vs,0,m,nd,h1,h2,hk=>by
  simp at h1 h2;subst h1;subst h2;show bindL kindOf ((p,w)::P.zip vs) m p=_;unfold bindL;rw [mS λv hv=>(yg.mp nd).1 (xI hv).1,if_pos hk];simp
 | p::P,w::vs,i + 1,m,nd,h1,h2,hk=>by
  show bindL kindOf ((p,w)::P.zip vs) m x=_;unfold bindL;exact mT (i:=i) (yg.mp nd).2 (by simpa using h1) (by simpa using h2) hk
theorem mV {kindOf:Str->Option NameKind}{x:Str}{v:Value}:∀ {P:List Str}{vs:List Value}{i:Nat}{m:Str->Option Value},P.Nodup->P[i]?=some x->vs[i]?=some v->kindOf x≠some .local ->
  bindC kindOf (P.zip vs) m x=some v
 | [],_,_,_,_,h,_,_=>by simp at h
 | _::_,[],_,_,_,_,h,_=>by simp at h
 | p::P,w::vs,0,m,nd,h1,h2,hk=>by
  simp at h1 h2;subst h1;subst h2;show bindC kindOf ((p,w)::P.zip vs) m p=_;unfold bindC;rw [mU λv hv=>(yg.mp nd).1 (xI hv).1,if_neg hk];simp
 | p::P,w::vs,i + 1,m,nd,h1,h2,hk=>by
  show bindC kindOf ((p,w)::P.zip vs) m x=_;unfold bindC;exact mV (i:=i) (yg.mp nd).2 (by simpa using h1) (by simpa using h2) hk
def start (N:List Str)(vs:List V):St:=vs.map some++List.replicate (N.length - vs.length) none
def kB (CX:MJ)(P:Program)(w:World)(K:PySem.W.Frag)(mg:Str->Option Value)(base:Heap)(N:List Str)(qual:Str)(scope:Scope)(f:Addr)(cd:Value)(A:Around)(outer:List Env)(s:Shared)(H:Hp)(E:XK):Cx where
 prog:=P
 w:=w
 K:=K
 mg:=mg
 base:=base
 A:=A.deeper (envOfC qual scope s.heap.objs.size f cd)
 N:=N
 cO:=s
 vR:=H
 env:=envOfC qual scope s.heap.objs.size f cd
 outer:=outer
 stack:=envOfC qual scope s.heap.objs.size f cd::outer
 ex:=[]
 calm:=true
 fn:=λ_=>true
 pn:=[]
 xe:=λe s'=>wpAny (model P w) (A.deeper (envOfC qual scope s.heap.objs.size f cd)) (leaving (envOfC qual scope s.heap.objs.size f cd) e) (λ_ lY=>CX outer H s E e lY) (λe' lY=>CX outer H s E e' lY) s'
theorem qh {sc:Scope}{n:Nat}{x:Str}(h:sc.names.lookup x=some .cell):∃ c,(cellsFrom n sc.names []).lookup x=some c:=by have q:=PySem.W.cellsFrom_some sc.names n [] (.inl h);exact Option.isSome_iff_exists.mp q
theorem vA {CX:MJ}{P:Program}{w:World}{K:PySem.W.Frag}{mg:Str->Option Value}{base:Heap}{N ps:List Str}{qual:Str}{scope:Scope}{f:Addr}{cd:Value}{A:Around}{outer:List Env}{s s1:Shared}{H:Hp}{E:XK}{us:List Value}{vs:List V}
  (S:aA N ps scope) (hd:A.handled=none) (e0:sZ P w K mg base A outer s H) (hl:vs.length=ps.length) (r:Vals vs us)
  (x:InCallC s s.heap.objs.size (bindL (envOfC qual scope s.heap.objs.size f cd).kindOf (ps.zip us) λ_=>none) (cellsFrom (s.heap.objs.size + 1) scope.names []) (bindC (envOfC qual scope s.heap.objs.size f cd).kindOf (ps.zip us) λ_=>none) s1) :
  Inv (kB CX P w K mg base N qual scope f cd A outer s H E) [] (start N vs) H s1:=by
 have Rm:ps.length<=N.length:=by have:=congrArg List.length S.pre;rw [zu] at this;omega
 obtain ⟨h1,tk,rfl,hk⟩:=x.done;have WA:∀ b:Addr,b ∉ (kB CX P w K mg base N qual scope f cd A outer s H E).ex:=λb z=>absurd (show b∈([]:List Addr) from z) (by simp);refine ⟨⟨e0.mod,S.kind,rfl,rfl,zE _,λy z c h1 h2=>?_,λy hy=>?_,λy c _ h=>?_,λ_=>hd,Around.frames_deeper e0.frames,.inr ⟨rfl,rfl⟩,λb z=>absurd z (WA b),e0.bs,e0.Mq,λb _ _=>WA b,λb z=>absurd z (WA b),e0.i0,e0.QH⟩,
  rfl,e0.bare,Un.kept hk,⟨_,x.toInCall.ns,λi y v h1 h2 h3=>?_⟩,λy c h=>⟨_,x.cell y c h⟩,e0.aY.fresh (zE _),λy c h=>?_,λp hp=>absurd (show p∈([]:List (Addr×Obj)) from hp) (by simp),e0.aY.kept hk,?_⟩
 ·exact name_of_addr x.apart (zp h1) (zp h2)
 ·have hy:scope.names.lookup y=some .cell\/scope.names.lookup y=some .free:=hy;rcases hy with hy | hy
  ·exact qh hy
  ·exact absurd rfl (S.PU _ (zp hy))
 ·exact xK (x.above y c (zp h))
 ·have hi:i < vs.length:=by
   unfold start at h2;by_cases hi:i < vs.length
   ·exact hi
   ·rw [zY (by simpa using hi)] at h2;rw [List.getElem?_replicate] at h2;split at h2 <;> cases h2
  have ha:vs[i]?=some v:=by
   unfold start at h2;rw [zi (by simpa using hi),zD] at h2;cases e:vs[i]? with
   | none=>rw [e] at h2;cases h2
   | some a=>rw [e] at h2;cases h2;rfl
  obtain ⟨u,hu,rv⟩:=r.get ha;have hp:ps[i]?=some y:=by
   rw [<-S.pre,List.getElem?_take_of_lt (by omega)];exact h1
  have YV:ps.Nodup:=by rw [<-S.pre];exact S.nd.sublist (List.take_sublist _ _)
  refine ⟨u,rv,?_⟩;rcases S.par y (zB hp) with k | k
  ·exact .inl ⟨k,mT YV hp hu k⟩
  ·obtain ⟨c,e⟩:=qh (n:=s.heap.objs.size + 1) k;refine .inr ⟨.inl k,c,e,?_⟩;have q:=x.cell y c e;rw [mV YV hp hu (by show scope.names.lookup y≠_;rw [k];decide)] at q;exact q
 ·exact e0.aY.fresh (xK (x.above y c (zp h)))
 ·unfold start;show _=N.length;rw [zN,zA,yd];omega
theorem OO {CX:MJ}{P:Program}{w:World}{K:PySem.W.Frag}{mg:Str->Option Value}{base:Heap}{k:Nat}{f:Addr}{name qual:Str}{params:Arguments}{body:List Stmt}{scope:Scope}{dV kV doc pm bI ct oc:Value}{an od:Option Addr}
  {NC:Array (Option Value)}{N ps:List Str}{sp:Sp} (lk:K.lookup f=some ⟨oc,od,.func (xL name qual params body scope dV kV doc pm an bI ct),NC⟩) (p5:PySem.W.codeIn K bI qual=true) (S:aA N ps scope)
  (len:∀ vs H Q E,sp vs H Q E->vs.length=ps.length)
  (iB:∀ (A:Around) (outer:List Env) (s:Shared) (H:Hp) (vs:List V) (Q:VK) (E:XK),c8 k (A.deeper (envOfC qual scope s.heap.objs.size f bI))->sp vs H Q E ->
   ∃ t,mX (kB CX P w K mg base N qual scope f bI A outer s H E) body t/\t { nx:=λ_ H'=>Q .bD H',rt:=Q } (start N vs) H) :
  aO P w K mg base CX (k + 1) f (xL name qual params body scope dV kV doc pm an bI ct) ps sp:=by
 refine ⟨len,λA outer s H args us vs Q E hr e0 hb r MP=>?_⟩;have hl:=len _ _ _ _ MP;have KX:K.In s.heap:=e0.mod.WK.keeps λb o e=>(e0.bs b o e).1;have lim:s.heap.NoLimit:=e0.mod.nolimit.keeps λb o e=>(e0.bs b o e).1;have SN:∀ y∈ps.zip us,scope.names.lookup y.1=some .local\/(scope.names.lookup y.1=some .cell/\((cellsFrom (s.heap.objs.size + 1) scope.names []).lookup y.1).isSome=true):=λ⟨n,v⟩ hy=>by
  rcases S.par n (xI hy).1 with q | q
  ·exact .inl q
  ·exact .inr ⟨q,PySem.W.cellsFrom_some _ _ _ (.inl q)⟩
 refine codeAny_call_function hr.depth (KX _ _ lk) rfl S.co S.gen rfl (PySem.W.codeRec_of KX p5) (hb _ _ _ _ ?_);refine wpAny_newFunctionEnv_cells S.kind SN λenv he s1 x=>?_;subst he;refine ⟨lim.keeps x.toInCall.keep,codeAny_func ?_⟩;obtain ⟨t,ht,hq⟩:=iB A outer s H vs Q E (hr.deeper _) MP;have I:Inv (kB CX P w K mg base N qual scope f bI A outer s H E) [] (start N vs) H s1:=vA S hr.hd e0 hl r x;refine wpAny_mono (ht [] s1 (start N vs) H _ I hq) (λfl s' hs=>?_) λe s' hs=>hs;have fin:∀ {bu:St}{H':Hp}{v:V}{u:Value},Inv (kB CX P w K mg base N qual scope f bI A outer s H E) [] bu H' s'->RelV v u->Q v H'->CE outer P w H s Q u s':=
  λ{bu H' v u} J rv q=>⟨v,H',J.os,J.bare,J.base,J.aY,rv,q⟩
 cases fl with
 | ret u=>
  obtain ⟨v,bu,H',J,rv,q⟩:=hs;exact fin J rv q
 | next=>
  obtain ⟨bu,H',J,q⟩:=hs;exact fin (v:=V.bD) (u:=Value.none) J rfl q
 | brk=>
  obtain ⟨_,_,_,q⟩:=hs;exact False.elim q
 | cont=>
  obtain ⟨_,_,_,q⟩:=hs;exact False.elim q
section
variable {X:Cx}{x:Str}{p pos:Pos}{e:Expr}{es:List Expr}{t:TA}{id T:String}{r:List V->Hp->VK->Prop}
def Rb (r:List V->Hp->VK->Prop)(t:TA):TE:=fun σ H Q=>t σ H λvs H1=>r vs H1 Q
theorem xg (hc:dc X (.builtin id) r)(hg:Gl X x)(hm:X.mg x=none)(hv:bootBuiltins x=some (.builtin id))(ha:PA X (e::es) t)(hn:x ≠ "__name__" := by decide)(SY:(x == ("__debug__" : Str))=false:=by decide)
  (he:starEach (e::es) X.env=(false,eval e X.env)::starEach es X.env:=by rfl) (Rm:(backTo pos (starEach es X.env)).any (·.1)=false:=by rfl):PE X (.Call (.Name x p) (e::es) [] pos) (Rb r t):=by
 intro af s σ H Q I h;refine wpAny_Call_Name_kw (cj I hg hm hv ?_ hn SY);exact PyProof.Rows.callWith_builtin1 (aZ (ha pos af s σ H _ I h) λus s1 ⟨vs,H1,I1,r1,q1⟩=>hc af s1 σ H1 vs us Q I1 r1 q1) he Rm
theorem fT (hc:dc X (.type T) r)(hg:Gl X x)(hm:X.mg x=none)(hv:bootBuiltins x=some (.type T))(ha:PA X (e::es) t)(hn:x ≠ "__name__" := by decide)(SY:(x == ("__debug__" : Str))=false:=by decide)
  (he:starEach (e::es) X.env=(false,eval e X.env)::starEach es X.env:=by rfl) (Rm:(backTo pos (starEach es X.env)).any (·.1)=false:=by rfl):PE X (.Call (.Name x p) (e::es) [] pos) (Rb r t):=by
 intro af s σ H Q I h;refine wpAny_Call_Name_kw (cj I hg hm hv ?_ hn SY);exact zl (aZ (ha pos af s σ H _ I h) λus s1 ⟨vs,H1,I1,r1,q1⟩=>hc af s1 σ H1 vs us Q I1 r1 q1) he Rm
end
section
variable {κ:Type} [DecidableEq κ]
def cV (aF:List (κ×V))(k:κ):Option V:=(aF.find? λkv=>decide (kv.1=k)).map (·.2)
def putK (aF:List (κ×V))(k:κ)(v:V):List (κ×V):=
 if (aF.any λkv=>decide (kv.1=k))=true then aF.map (λkv=>if kv.1=k then (kv.1,v) else kv) else aF++[(k,v)]
theorem wn {p:κ×V}{r:List (κ×V)}{k:κ}(e:p.1=k):cV (p::r) k=some p.2:=by simp [cV,yq,e]
theorem wo {p:κ×V}{r:List (κ×V)}{k:κ}(e:¬ p.1=k):cV (p::r) k=cV r k:=by simp [cV,yq,e]
theorem ff (k:κ):∀ aF:List (κ×V),(aF.any λkv=>decide (kv.1=k))=(cV aF k).isSome
 | []=>rfl
 | p::r=>by
  rw [yw];by_cases e:p.1=k
  ·simp only [wn e,decide_eq_true e,Bool.true_or,Option.isSome_some]
  ·rw [wo e,decide_eq_false e,Bool.false_or];exact ff k r
theorem oN (k j:κ)(y:V):∀ aF:List (κ×V),cV (aF.map λkv=>if kv.1=k then (kv.1,y) else kv) j=(cV aF j).map λx=>if j=k then y else x
 | []=>rfl
 | p::r=>by
  have ih:=oN k j y r;rw [zf];by_cases h:p.1=k
  ·rw [if_pos h];by_cases e:p.1=j
   ·rw [wn (p:=(p.1,y)) e,wn e,yf,if_pos (e.symm.trans h)]
   ·rw [wo (p:=(p.1,y)) e,wo e,ih]
  ·rw [if_neg h];by_cases e:p.1=j
   ·rw [wn (p:=p) e,wn e,yf,if_neg (λz=>h (e.trans z))]
   ·rw [wo (p:=p) e,wo e,ih]
theorem lS (k j:κ)(y:V):∀ aF:List (κ×V),cV aF k=none->cV (aF++[(k,y)]) j=if j=k then some y else cV aF j
 | [],_=>by
  by_cases e:k=j
  ·rw [if_pos e.symm];exact wn (p:=(k,y)) e
  ·rw [if_neg (λz=>e z.symm)];exact wo (p:=(k,y)) e
 | p::r,hn=>by
  rw [xB];have hk:¬ p.1=k:=λz=>by rw [wn z] at hn;cases hn
  rw [wo hk] at hn;have ih:=lS k j y r hn;by_cases e:p.1=j
  ·rw [wn e,wn e,if_neg (λz=>hk (e.trans z))]
  ·rw [wo e,wo e,ih]
theorem oM (aF:List (κ×V))(k j:κ)(y:V):cV (putK aF k y) j=if j=k then some y else cV aF j:=by
 unfold putK;by_cases a:(aF.any λkv=>decide (kv.1=k))=true
 ·rw [if_pos a,oN];rw [ff] at a;by_cases e:j=k
  ·obtain ⟨x,hx⟩:=Option.isSome_iff_exists.mp a;rw [if_pos e,e,hx,yf,if_pos rfl]
  ·rw [if_neg e];cases cV aF j with
   | none=>rfl
   | some x=>rw [yf,if_neg e]
 ·rw [if_neg a];refine lS k j y aF ?_;rw [ff] at a;cases q:cV aF k with
  | none=>rfl
  | some x=>rw [q] at a;exact (a rfl).elim
theorem fF (aF:List (κ×V))(k:κ)(v:V):(putK aF k v).length<=aF.length + 1:=by
 unfold putK;split
 ·rw [zA];omega
 ·rw [zN,ze,yL];omega
theorem kP.vz {o:Option V}{u:Option Value}(r:kP o u):o.isSome=u.isSome:=by
 cases o with
 | none=>cases u with
  | none=>rfl
  | some _=>exact (show False from r).elim
 | some _=>cases u with
  | none=>exact (show False from r).elim
  | some _=>rfl
theorem KV.val {aF:List (κ×V)}{vs:List (κ×Value)}(r:KV aF vs)(k:κ):kP (cV aF k) (valueAt vs k):=by
 unfold KV at r;induction r with
 | nil=>exact True.intro
 | @cons p q ps qs h t ih=>
  obtain ⟨h1,h2⟩:=h;by_cases e:p.1=k
  ·have e':q.1=k:=h1.symm.trans e;have b:valueAt (q::qs) k=some q.2:=by simp [valueAt,yq,e']
   rw [wn e,b];exact h2
  ·have e':¬ q.1=k:=λz=>e (h1.trans z);have b:valueAt (q::qs) k=valueAt qs k:=by simp [valueAt,yq,e']
   rw [wo e,b];exact ih
theorem KV.any {aF:List (κ×V)}{vs:List (κ×Value)}(r:KV aF vs)(k:κ):(aF.any λkv=>decide (kv.1=k))=vs.any λkv=>decide (kv.1=k):=by
 unfold KV at r;induction r with
 | nil=>rfl
 | cons h t ih=>rw [yw,yw,ih,h.1]
theorem KV.Pu {aF:List (κ×V)}{vs:List (κ×Value)}(r:KV aF vs)(k:κ){y:V}{u:Value}(ry:RelV y u) :
  KV (aF.map λkv=>if kv.1=k then (kv.1,y) else kv) (vs.map λkv=>if kv.1=k then (kv.1,u) else kv):=by
 unfold KV at r ⊢;induction r with
 | nil=>exact .nil
 | @cons p q ps qs h t ih=>
  rw [zf,zf];refine .cons ?_ ih;obtain ⟨h1,h2⟩:=h;by_cases e:p.1=k
  ·rw [if_pos e,if_pos (h1.symm.trans e)];exact ⟨h1,ry⟩
  ·rw [if_neg e,if_neg (λz=>e (h1.trans z))];exact ⟨h1,h2⟩
theorem KV.put {aF:List (κ×V)}{vs:List (κ×Value)}(r:KV aF vs)(k:κ){y:V}{u:Value}(ry:RelV y u):KV (putK aF k y) (stored vs k u):=by
 unfold putK stored;rw [r.any k];by_cases e:(vs.any λkv=>decide (kv.1=k))=true
 ·rw [if_pos e,if_pos e];exact r.Pu k ry
 ·rw [if_neg e,if_neg e];exact Paired.snoc r ⟨rfl,ry⟩
theorem KV.length {aF:List (κ×V)}{vs:List (κ×Value)}(r:KV aF vs):aF.length=vs.length:=Paired.length r
end
theorem Ly {P:Program}{w:World}{k:Key}{u:Value}(r:RelV (kV k) u):(bH P w).is k u=true:=by
 cases k with
 | inl i=>obtain ⟨t,e⟩:=(show ∃ t,u=Value.int i t from r);subst e;exact pO P w i t
 | inr x=>obtain ⟨t,e⟩:=(show ∃ t,u=Value.str x t from r);subst e;exact pN P w x t
theorem mz {P:Program}{w:World}:∀ {ks:List Key}{us:List Value},Vals (ks.map kV) us->ItemsAre (bH P w) ks us
 | [],_,r=>by rw [yX] at r;cases r;exact .nil
 | k::ks,_,r=>by
  rw [zf] at r;cases r with
  | cons h t=>exact .cons (Ly h) (mz t)
abbrev KT (H:Hp):List (List Key×V)->List (List Key×Addr×Value)->Prop:=Paired λp q=>p.1=q.1/\H q.2.1=some (.tup (p.1.map kV))/\RelV p.2 q.2.2
theorem KT.val {H:Hp}{aF:List (List Key×V)}{xs:List (List Key×Addr×Value)}(r:KT H aF xs)(k:List Key):kP (cV aF k) ((atKey xs k).map (·.2)):=by
 induction r with
 | nil=>exact True.intro
 | @cons p q ps qs h t ih=>
  obtain ⟨h1,_,h2⟩:=h;by_cases e:p.1=k
  ·have e':q.1=k:=h1.symm.trans e;have b:atKey (q::qs) k=some q.2:=by simp [atKey,yq,e']
   rw [wn e,b];exact h2
  ·have e':¬ q.1=k:=λz=>e (h1.trans z);have b:atKey (q::qs) k=atKey qs k:=by simp [atKey,yq,e']
   rw [wo e,b];exact ih
theorem KT.Pu {H:Hp}{aF:List (List Key×V)}{xs:List (List Key×Addr×Value)}(r:KT H aF xs)(k:List Key){y:V}{u:Value}(ry:RelV y u) :
  KT H (aF.map λkv=>if kv.1=k then (kv.1,y) else kv) (xs.map (putAt k u)):=by
 induction r with
 | nil=>exact .nil
 | @cons p q ps qs h t ih=>
  rw [zf,zf];refine .cons ?_ ih;obtain ⟨h1,h2,h3⟩:=h;unfold putAt;by_cases e:p.1=k
  ·rw [if_pos e,if_pos (h1.symm.trans e)];exact ⟨h1,h2,ry⟩
  ·rw [if_neg e,if_neg (λz=>e (h1.trans z))];exact ⟨h1,h2,h3⟩
theorem KT.put {H:Hp}{aF:List (List Key×V)}{xs:List (List Key×Addr×Value)}(r:KT H aF xs)(k:List Key){b:Addr}{y:V}{u:Value}(hb:H b=some (.tup (k.map kV)))(ry:RelV y u) :
  KT H (putK aF k y) (storedH xs k b u):=by
 have e:(aF.any λkv=>decide (kv.1=k))=(atKey xs k).isSome:=by
  rw [ff,(r.val k).vz,Option.isSome_map]
 unfold putK storedH;rw [e];by_cases q:(atKey xs k).isSome=true
 ·rw [if_pos q,if_pos q];exact r.Pu k ry
 ·rw [if_neg q,if_neg q];exact Paired.snoc r ⟨rfl,hb,ry⟩
theorem KT.keeps {H H':Hp}{aF:List (List Key×V)}{xs:List (List Key×Addr×Value)}(r:KT H aF xs)(ht:∀ b ys,H b=some (.tup ys)->H' b=some (.tup ys)):KT H' aF xs:=
 Paired.PY r λ_ _ z=>⟨z.1,ht _ _ z.2.1,z.2.2⟩
section
variable {P:Program}{w:World}{H:Hp}{h:Heap}{a:Addr}
theorem Oq {u:HO}(ok:fZ P w H h)(e:Rd H a u):aW P w H h a u:=e.ok ok
theorem Me {aF:List (Key×V)}(ok:fZ P w H h)(e:Rd H a (.dK aF)):aF.length<=sizeLine/\(a == sysModules)=false/\∃ vs,KV aF vs/\h.DictOf (bH P w) a vs:=
 show aW P w H h a (.dK aF) from Oq ok e
theorem Tj {aF:List (Key×V)}(ok:fZ P w H h)(e:H a=some (.dK aF)):aF.length<=sizeLine/\(a == sysModules)=false/\∃ vs,KV aF vs/\h.DictOf (bH P w) a vs:=Me ok (.inl e)
theorem se {ks:List Key}(ok:fZ P w H h)(e:H a=some (.tup (ks.map kV))):(tupleKind (bH P w)).is h ks a:=by obtain ⟨_,ay,r,o,h1,h2,n,h3⟩:=(show aW P w H h a (.tup (ks.map kV)) from ok a _ e);exact ⟨o,ay.toArray,n,h1,h2,h3,by simpa using mz r⟩
theorem Mc {aF:List (List Key×V)}(ok:fZ P w H h)(e:Rd H a (.dT aF)):aF.length<=sizeLine/\(a == sysModules)=false /\
  ∃ xs,KT H aF xs/\h.DictOfH (tupleKind (bH P w)) a xs:=by
 obtain ⟨z,y,xs,r,o,es,ep,h1,h2,h3,h4,h5⟩:=(show aW P w H h a (.dT aF) from Oq ok e);refine ⟨z,y,xs,r,o,es,ep,h1,h2,h3,h4,λx hx=>?_,h5⟩;have all:∀ {l:List (List Key×V)}{m:List (List Key×Addr×Value)},KT H l m->∀ x∈m,(tupleKind (bH P w)).is h x.1 x.2.1:=by
  intro l m q;induction q with
  | nil=>intro x hx;exact nomatch hx
  | @cons p q ps qs hq t ih=>
   intro x hx;rcases zK.mp hx with e | hx
   ·subst e;exact se ok (by rw [<-hq.1];exact hq.2.1)
   ·exact ih x hx
 exact all r x hx
theorem Ti {aF:List (List Key×V)}(ok:fZ P w H h)(e:H a=some (.dT aF)):aF.length<=sizeLine/\(a == sysModules)=false /\
  ∃ xs,KT H aF xs/\h.DictOfH (tupleKind (bH P w)) a xs:=Mc ok (.inl e)
end
def tu (H:Hp)(a:Addr)(y:V)(r:Option V):Prop:=
 (∃ aF k,Rd H a (.dK aF)/\y=kV k/\r=cV aF k)\/∃ aF k b,Rd H a (.dT aF)/\y=.ref b/\H b=some (.tup (k.map kV))/\r=cV aF k
def MI (H:Hp)(a:Addr)(y v:V)(H':Hp):Prop:=
 (∃ aF k,H a=some (.dK aF)/\y=kV k/\aF.length < sizeLine/\H'=upd H a (.dK (putK aF k v))) \/
 ∃ aF k b,H a=some (.dT aF)/\y=.ref b/\H b=some (.tup (k.map kV))/\aF.length < sizeLine/\H'=upd H a (.dT (putK aF k v))
theorem tu.k {H:Hp}{a:Addr}{aF:List (Key×V)}{k:Key}(e:H a=some (.dK aF)):tu H a (kV k) (cV aF k):=.inl ⟨aF,k,.inl e,rfl,rfl⟩
theorem MI.k {H:Hp}{a:Addr}{aF:List (Key×V)}{k:Key}{v:V}(e:H a=some (.dK aF))(hl:aF.length < sizeLine):MI H a (kV k) v (upd H a (.dK (putK aF k v))):=.inl ⟨aF,k,e,rfl,hl,rfl⟩
section
variable {X:Cx}{af:List (Addr×Obj)}{σ:St}{H:Hp}{s:Shared}{a:Addr}{y v:V}{u r:Value}{o:Option V}{A:Around}{E:Value->Shared->Prop}
theorem Inv.big (I:Inv X af σ H s):sysModules < s.heap.objs.size:=by have h:mainGlobals < s.heap.objs.size:=(I.mod.glob.keeps I.bk).lt;exact Nat.lt_trans (by decide) h
theorem vL {Q:Value->Shared->Prop}(hu:A.units + 1 < cLine)(I:Inv X af σ H s)(g:tu H a y (some v))(ry:RelV y u)(h:∀ w' s',Inv X af σ H s'->RelV v w'->Q w' s') :
  wpAny (model X.prog X.w) A (getItem (.ref a) u) Q E s:=by
 rcases g with ⟨aF,k,e,ey,l⟩ | ⟨aF,k,b,e,ey,eb,l⟩
 ·subst ey;obtain ⟨z,hd,vs,rel,dd⟩:=Me I.aY e;obtain ⟨w',hw,uW⟩:=kP.some_of (v:=v) (o:=valueAt vs k) (by rw [l];exact rel.val k);exact wpAny_getItem_of (Ly ry) dd.mapOf hw (h w' _ (I.tok _) uW)
 ·subst ey;cases (show u=Value.ref b from ry);obtain ⟨z,hd,xs,rel,dd⟩:=Mc I.aY e;obtain ⟨w',hw,uW⟩:=kP.some_of (v:=v) (o:=(atKey xs k).map (·.2)) (by rw [l];exact rel.val k);obtain ⟨p,hp,Rn⟩:=Option.map_eq_some_iff.mp hw;refine wpAny_getItem_heap (tupleKind_room_in1 hu) (se I.aY eb) dd hp ?_;rw [Rn];exact h w' _ (I.tok _) uW
theorem ur {h':Heap}{t':Nat}{ob:HO}(I:Inv X af σ H s)(mu:TR (H a))(hs:Heap.SameBut a s.heap h')(he:∃ q,h'.get? a=some q)(new:aW X.prog X.w (upd H a ob) h' a ob) :
  Inv X af σ (upd H a ob) { s with heap:=h',toks:=t' }:=
 I.write (x:=a) (e:=a) mu (.inl rfl) (λb q hb z=>(hs.2 b hb).trans z) he new
theorem QN {P:Program}{w:World}{H':Hp}{h':Heap}{aF:List (Key×V)}{vs:List (Key×Value)}(z:aF.length<=sizeLine)(hd:(a == sysModules)=false)(rel:KV aF vs)(dd:h'.DictOf (bH P w) a vs) :
  aW P w H' h' a (.dK aF):=⟨z,hd,vs,rel,dd⟩
theorem vK {H':Hp}{Q:Unit->Shared->Prop}(hu:A.units + 1 < cLine)(I:Inv X af σ H s)(g:MI H a y v H')(ry:RelV y u)(rv:RelV v r)(h:∀ s',Inv X af σ H' s'->Q () s') :
  wpAny (model X.prog X.w) A (setItem (.ref a) u r) Q E s:=by
 rcases g with ⟨aF,k,e,ey,l,eH⟩ | ⟨aF,k,b,e,ey,eb,l,eH⟩
 ·subst ey eH;obtain ⟨z,hd,vs,rel,dd⟩:=Tj I.aY e;have hz:vs.length<=sizeLine:=by rw [<-rel.length];exact z
  have hl:(putK aF k v).length<=sizeLine:=by have:=fF aF k v;omega
  refine wpAny_setItem_pairs (hsz:=hz) (Ly ry) dd λh' UR hs=>h _ ?_;have he:∃ q,h'.get? a=some q:=let ⟨q,_,_,hq,_⟩:=UR;⟨q,hq⟩;exact ur I (by rw [e];exact True.intro) hs he (QN hl hd (rel.put k rv) UR)
 ·subst ey eH;cases (show u=Value.ref b from ry);obtain ⟨z,hd,xs,rel,dd⟩:=Ti I.aY e;have hz:xs.length<=sizeLine:=by rw [<-Paired.length rel];exact z
  have hl:(putK aF k v).length<=sizeLine:=by have:=fF aF k v;omega
  refine wpAny_setItem_heap (hsz:=hz) (tupleKind_room_in1 hu) (se I.aY eb) dd λh' UR hs=>h _ ?_;obtain ⟨q,es,ep,hq,h2,h3,h4,_,h5⟩:=UR;refine ur I (by rw [e];exact True.intro) hs ⟨q,hq⟩ ⟨hl,hd,_,(rel.put k eb rv).keeps λc ys ec=>?_,q,es,ep,hq,h2,h3,h4,h5⟩;rw [xX (bY ec e (λz=>nomatch z))];exact ec
end
section
variable {X:Cx}{af:List (Addr×Obj)}{σ:St}{H:Hp}{s:Shared}{a:Addr}{aF:List (Key×V)}{k:Key}{u:Value}{A:Around}{E:Value->Shared->Prop}
end
def TQ (i:Expr):Prop:=∀ ov iv,subscripted i false ov iv=operate [ov,iv] (getItem ov iv)
theorem M7 {prog:Program}{w:World}{A:Around}{E:Value->Shared->Prop}{s:Shared}{env:Env}{value slice:Expr}{pos:Pos}{T id:String}{Q:Value->Shared->Prop}
  (hl:typeLookup (.type T) "__getitem__" = pure (some (.builtin id))) (hs:TQ slice)
  (h:wpAny (model prog w) A (eval value env) (λo aN=>wpAny (model prog w) A (eval slice env) (λi jN=>jN.TypeIs o T/\wpAny (model prog w) A (getItem o i) Q E jN) E aN) E s) :
  wpAny (model prog w) A (eval (.Subscript value slice pos) env) Q E s:=by
 refine Subscript_ (wpAny_mono h (λo aN kc=>wpAny_mono kc (λi jN LC=>?_) λ_ _ x=>x) λ_ _ x=>x);obtain ⟨hT,LC⟩:=LC;unfold subscriptTail;refine wpAny_bind ?_;rw [getitemInPython_of_ne hT.not_modules];refine wpAny_bind (wpAny_specialOf hT hl ?_);have fin:wpAny (model prog w) A (subscripted slice false o i) (λr uL=>wpAny (model prog w) A (letTemporaryGo value o r >>= λ_=>pure r) Q E uL) E jN:=by
  rw [hs o i];exact wpAny_operating (wpAny_mono LC (λr uL NU=>wpAny_bind (wpAny_letTemporaryGo (wpAny_pure NU))) λ_ _ x=>x)
 first
  | exact wpAny_pure (wpAny_bind fin)
  | exact wpAny_bind (wpAny_pure (wpAny_bind fin))
  | exact wpAny_bind fin
theorem qa {X:Cx}{af:List (Addr×Obj)}{σ:St}{H:Hp}{s:Shared}{a:Addr}{y:V}{o:Option V}(I:Inv X af σ H s)(g:tu H a y o):s.TypeIs (.ref a) "dict" := by
 rcases g with ⟨aF,k,e,_,_⟩ | ⟨aF,k,b,e,_,_,_⟩
 ·obtain ⟨_,_,vs,_,dd⟩:=Me I.aY e;exact dd.typeIs
 ·obtain ⟨_,_,xs,_,dd⟩:=Mc I.aY e;exact dd.typeIs
def RI (td ty:TE):TE:=fun σ H Q=>td σ H λx H1=>ty σ H1 λy H2=>∃ a v,x=.ref a/\tu H2 a y (some v)/\Q v H2
def RW (td ty tv:TE):TS:=λD σ H=>tv σ H λv H1=>td σ H1 λx H2=>ty σ H2 λy H3=>∃ a H4,x=.ref a/\MI H3 a y v H4/\D.nx σ H4
section
variable {X:Cx}{o i e value:Expr}{pos pos' O7:Pos}{td ty tv:TE}
theorem Ny (hu:X.A.units + 1 < cLine)(ho:PE X o td)(hi:PE X i ty)(hs:TQ i):PE X (.Subscript o i pos) (RI td ty):=by intro af s σ H Q I h;refine M7 PySem.F.slot_dict_getitem.lookup hs (aZ (ho af s σ H _ I h) λu s1 Vb=>?_);obtain ⟨x,H1,I1,rx,q1⟩:=Vb;refine aZ (hi af s1 σ H1 _ I1 q1) λiv s2 Va=>?_;obtain ⟨y,H2,I2,ry,a,v,ex,g,q2⟩:=Va;subst ex;obtain rfl:u=Value.ref a:=rx;exact ⟨qa I2 g,vL hu I2 g ry λw' s3 I3 uW=>⟨v,H2,I3,uW,q2⟩⟩
theorem Nr (hu:X.A.units + 1 < cLine)(ho:PE X o td)(hi:PE X i ty)(hv:PE X value tv)(hs:swapsWith value (some (.Subscript o i pos')) pos.line X.env=pure false) :
  PS X (.Assign [.Subscript o i pos'] value pos) (RW td ty tv):=by
 intro af s σ H D I h;refine wpAny_Assign_Subscript (aZ (hv af s σ H _ I h) λr s1 U9=>?_) hs;obtain ⟨v,H1,I1,rv,q1⟩:=U9;refine aZ (ho af s1 σ H1 _ I1 q1) λu s2 U8=>?_;obtain ⟨x,H2,I2,rx,q2⟩:=U8;refine aZ (hi af s2 σ H2 _ I2 q2) λiv s3 U7=>?_;obtain ⟨y,H3,I3,ry,a,H4,ex,g,q3⟩:=U7;subst ex;obtain rfl:u=Value.ref a:=rx;exact vK hu I3 g ry rv λs4 I4=>⟨σ,H4,I4,q3⟩
end
theorem Mf {P:Program}{w:World}{H:Hp}(h:Heap)(hb:sysModules < h.objs.size):aW P w H (h.push { cls:=.type "dict", data:=.dict #[] }) h.objs.size (.dK []):=
 ⟨zc _,beq_eq_false_iff_ne.mpr (Ne.symm (zW hb)),[],.nil,Heap.DictOf.new h⟩
def Pd:TE:=λ_ H Q=>∀ p,H p=none->Q (.ref p) (upd H p (.dK []))
section
variable {X:Cx}{pos:Pos}
theorem La:PE X (.Dict [] [] pos) Pd:=λaf s σ H Q I h=>
 wpAny_Dict_empty ⟨.ref s.heap.objs.size,_,I.laid (a:=s.heap.objs.size) (o:=.dK []) (t':=s.toks) (λ_ _ q=>Heap.get?_push_of_some _ q) (zE _) (Mf s.heap I.big),rfl,h _ (I.aY.fresh (zE _))⟩
end
section
variable {X:Cx}{af:List (Addr×Obj)}{σ:St}{H:Hp}{s:Shared}{a:Addr}{y d:V}{u r:Value}{o:Option V}{A:Around}{E:Value->Shared->Prop}
end
section
variable {X:Cx}{o e f:Expr}{apos lH:Pos}{td ty tx:TE}
end
section
variable {X:Cx}{af:List (Addr×Obj)}{σ:St}{H:Hp}{s:Shared}{a:Addr}{aF:List (Key×V)}{A:Around}{E:Value->Shared->Prop}
end
section
variable {X:Cx}{af:List (Addr×Obj)}{σ:St}{H:Hp}{s:Shared}{a:Addr}{y:V}{u:Value}{A:Around}{E:Value->Shared->Prop}
end
end L2
namespace HT
open PySem PyProof.Rows
section
open PySem.SeqAt
open PySem.AutoSeq1 (wpAny_loadPart')
open PySem.MeetsSeq PySem.MeetsSeq2 PySem.MeetsSeq3
end
section
variable {prog:Program}{w:World}{A:Around}{E:Value->Shared->Prop}{s:Shared}
def cz (n d:Nat):Option Int->Nat
 | none=>d
 | some v=>if v < 0 then (v + (n:Int)).toNat else min v.toNat n
theorem Nk (n d k:Nat):cz n d (some (k:Int))=min k n:=by show (if (k:Int) < 0 then ((k:Int) + (n:Int)).toNat else min (k:Int).toNat n)=min k n;rw [if_neg (by omega),zm]
theorem Pp (n d:Nat)(hd:d<=n)(o:Option Int):cz n d o<=n:=by
 cases o with
 | none=>exact hd
 | some v=>
  show (if v < 0 then (v + (n:Int)).toNat else min v.toNat n)<=n;by_cases hv:v < 0
  ·rw [if_pos hv];omega
  ·rw [if_neg hv];exact Nat.min_le_right _ _
theorem uv (v:Int)(n d:Nat):(if v < 0 then max (v + (n:Int)) 0 else min v (n:Int))=((cz n d (some v):Nat):Int):=by
 show (if v < 0 then max (v + (n:Int)) 0 else min v (n:Int))=(((if v < 0 then (v + (n:Int)).toNat else min v.toNat n):Nat):Int);by_cases hv:v < 0
 ·simp only [if_pos hv];omega
 ·simp only [if_neg hv];omega
theorem sW (lo hi:Option Int)(n:Nat):Builtin.Slice.sliceAdjust lo hi 1 (n:Int)=(((cz n 0 lo:Nat):Int),((cz n n hi:Nat):Int)):=by
 have h1:¬ ((1:Int) < 0):=by omega
 unfold Builtin.Slice.sliceAdjust;simp only [h1,if_false];refine Prod.ext ?_ ?_
 ·cases lo with
  | none=>rfl
  | some v=>exact uv v n 0
 ·cases hi with
  | none=>rfl
  | some v=>exact uv v n n
theorem rS (i j:Nat):Builtin.Slice.slicePlaces (i:Int) (j:Int) 1=j - i:=by
 unfold Builtin.Slice.slicePlaces;have h1:(1:Int) > 0:=by omega
 simp only [h1,if_true,Int.ediv_one];split <;> omega
theorem jP {v:Value}{o:Option Int}{Q:Option Int->Shared->Prop}(p:IsPart v o)(h:Q o s):wpAny (model prog w) A (Builtin.Slice.slicePartIndex v) Q E s:=by
 cases p with
 | none=>exact slicePart_none h
 | int i t=>exact slicePart_int h
theorem iT {sl:Addr}{vl vu:Value}{lo hi:Option Int}{n:Nat}{Q:Int×Int×Nat->Shared->Prop}(hs:s.heap.IsSliceOf sl vl vu .none)(pl:IsPart vl lo)(pu:IsPart vu hi)
  (h:Q (((cz n 0 lo:Nat):Int),1,cz n n hi - cz n 0 lo) s):wpAny (model prog w) A (Builtin.Slice.sliceApplied (.ref sl) (pure (n:Int))) Q E s:=by
 obtain ⟨os,SI,Zv,UG⟩:=id hs;unfold Builtin.Slice.sliceApplied Builtin.Slice.sliceFields;refine wpAny_bind (wpAny_bind (wpAny_field SI UG (x:=vl) rfl (wpAny_bind (wpAny_field SI UG (x:=vu) rfl (wpAny_bind (wpAny_field SI UG (x:=.none) rfl (wpAny_pure ?_)))))));refine wpAny_bind (slicePart_none ?_);show wpAny _ _ (if ((1:Int) == 0)=true then _ else _) _ _ s;rw [if_neg (by decide)];refine wpAny_bind (jP pl (wpAny_bind (jP pu (wpAny_bind (wpAny_pure ?_)))));show wpAny _ _ (match Builtin.Slice.sliceAdjust lo hi 1 (n:Int) with | (lo,hi)=>pure (lo,(1:Int),Builtin.Slice.slicePlaces lo hi 1)) _ _ s;rw [sW lo hi n];show wpAny _ _ (pure (((cz n 0 lo:Nat):Int),(1:Int),Builtin.Slice.slicePlaces ((cz n 0 lo:Nat):Int) ((cz n n hi:Nat):Int) 1)) _ _ s;rw [rS];exact wpAny_pure h
theorem K7 (xs:Array Value)(i k:Nat):((List.range k).filterMap λ(m:Nat)=>xs[((i:Int) + (m:Int) * 1).toNat]?).toArray=((xs.toList.drop i).take k).toArray:=by
 have e:(λ(m:Nat)=>xs[((i:Int) + (m:Int) * 1).toNat]?)=λm=>xs[i + m]?:=by
  funext m;have:((i:Int) + (m:Int) * 1).toNat=i + m:=by omega
  rw [this]
 rw [e];have:=pick_run xs i k;rw [List.filterMap_map] at this;have e2:((λx=>xs[x]?) ∘ λx=>i + x)=λm=>xs[i + m]?:=rfl;rw [e2] at this;rw [this]
theorem iC {t sl:Addr}{items:Array Value}{vl vu:Value}{lo hi:Option Int}{Q:Value->Shared->Prop}(ht:IsTup s.heap t items)(hs:s.heap.IsSliceOf sl vl vu .none)(pl:IsPart vl lo)(pu:IsPart vu hi)
  (hw:¬ (cz items.size 0 lo=0/\cz items.size items.size hi=items.size))
  (h:Q (.ref s.heap.objs.size) { s with heap:=s.heap.push { cls:=.type "tuple", data:=.seq ((items.toList.drop (cz items.size 0 lo)).take (cz items.size items.size hi - cz items.size 0 lo)).toArray } })
  (hsz:items.size<=sizeLine):wpAny (model prog w) A (getItem (.ref t) (.ref sl)) Q E s:=by
 have tY:sizeOk (.seq ((items.toList.drop (cz items.size 0 lo)).take (cz items.size items.size hi - cz items.size 0 lo)).toArray):=by
  show ((items.toList.drop (cz items.size 0 lo)).take (cz items.size items.size hi - cz items.size 0 lo)).toArray.size<=sizeLine;rw [zO,zu,yl,Array.length_toList];omega
 have hj:cz items.size items.size hi<=items.size:=Pp _ _ (zE _) hi;obtain ⟨os,SI,Zv,UG⟩:=id hs;have hTs:s.TypeIs (.ref sl) "slice" := ⟨os,SI,Zv⟩;unfold getItem;try with_reducible refine wpAny_holding ?_
 first | refine wpAny_bind (wpAny_pure ?_) | skip
 refine wpAny_bind (wpAny_sequenceKey ht.typeIs (by decide) ?_);refine wpAny_bind (wpAny_callSpecial?_slot (name:=Str.ofString "__getitem__") ht.typeIs PyProof.Rows.slot_tuple_getitem
  (wpAny_call_entry PyProof.Rows.slot_tuple_getitem ht.typeIs entry_tuple_getitem ?_ (args_tuple_getitem _ _)))
 show wpAny _ _ (Builtin.Tuple.tupleItemsOf (.ref t) >>= _) _ _ s;refine wpAny_bind (tupleItemsOf_ ht ?_);refine wpAny_bind (wpAny_typeOf hTs ?_);rw [if_pos (by decide)];refine wpAny_bind (iT hs pl pu ?_);have hno:¬ ((((cz items.size 0 lo:Nat):Int) == 0 && (1:Int) == 1 && (cz items.size items.size hi - cz items.size 0 lo) == items.size)=true):=by
  intro q;rw [zb,zb] at q;have q1:((cz items.size 0 lo:Nat):Int)=0:=eq_of_beq q.1.1;have q2:cz items.size items.size hi - cz items.size 0 lo=items.size:=eq_of_beq q.2;exact hw ⟨by omega,by omega⟩
 show wpAny _ _ (if (((cz items.size 0 lo:Nat):Int) == 0 && (1:Int) == 1 && (cz items.size items.size hi - cz items.size 0 lo) == items.size)=true then _ else _) _ _ s;rw [if_neg hno,K7]
 first
  | exact wpAny_bind (m:=Builtin.Tuple.tupleExact _) (wpAny_newObj_type (wpAny_pure ⟨_,rfl,wpAny_pure h⟩) tY)
  | exact wpAny_bind (m:=Builtin.Tuple.tupleExact _) (wpAny_newObj_type (wpAny_bind (wpAny_pure (wpAny_pure ⟨_,rfl,wpAny_pure h⟩))) tY)
  | exact wpAny_bind (wpAny_bind (m:=Builtin.Tuple.tupleExact _) (wpAny_newObj_type (wpAny_pure (wpAny_pure ⟨_,rfl,wpAny_pure h⟩)) tY))
  | exact wpAny_bind (wpAny_bind (m:=Builtin.Tuple.tupleExact _) (wpAny_newObj_type (wpAny_pure ⟨_,rfl,wpAny_pure h⟩) tY))
end
end HT
namespace L2
open PySem PySem.Spec PyProof.Rows
abbrev TO:=St->Hp->(Option Int->Hp->Prop)->Prop
def PO (X:Cx)(e:Option Expr)(t:TO):Prop:=
 ∀ (af:List (Addr×Obj)) (s:Shared) (σ:St) (H:Hp) (Q:Option Int->Hp->Prop),Inv X af σ H s->t σ H Q ->
  wpAny (model X.prog X.w) X.A (evalPart e X.env) (λu s'=>∃ o H',Inv X af σ H' s'/\IsPart u o/\Q o H') X.xe s
def g8:TO:=λ_ H Q=>Q none H
def lW (t:TE):TO:=fun σ H Q=>t σ H λx H1=>∃ i,x=.int i/\Q (some i) H1
section
variable {X:Cx}{e:Expr}{te:TE}{lo hi:Option Expr}{tl th:TO} {pos p2:Pos}
theorem tN:PO X none g8:=by intro af s σ H Q I h;rw [evalPart_none];exact wpAny_pure ⟨none,H,I,.none,h⟩
theorem nq (h:PE X e te):PO X (some e) (lW te):=by intro af s σ H Q I hw;rw [evalPart_some];refine aZ (h af s σ H _ I hw) λu s1 U6=>?_;obtain ⟨x,H1,I1,r1,q1⟩:=U6;obtain ⟨i,rfl,q⟩:=q1;obtain ⟨t,rfl⟩:=r1;exact ⟨some i,H1,I1,.int i t,q⟩
def Tw (X:Cx)(r:V->Option Int->Option Int->Hp->VK->Prop):Prop:=
 ∀ (af:List (Addr×Obj)) (s:Shared) (σ:St) (H:Hp) (x:V) (v vl vu:Value) (lo hi:Option Int) (sl:Addr) (Q:VK),Inv X af σ H s->RelV x v->s.heap.IsSliceOf sl vl vu .none->IsPart vl lo->IsPart vu hi->r x lo hi H Q ->
  ∃ T id,typeLookup (.type T) "__getitem__" = pure (some (.builtin id))/\s.TypeIs v T/\wpAny (model X.prog X.w) X.A (getItem v (.ref sl)) (EP X af σ Q) X.xe s
def RC (r:V->Option Int->Option Int->Hp->VK->Prop)(te:TE)(tl th:TO):TE:=fun σ H Q=>te σ H λx H1=>tl σ H1 λl H2=>th σ H2 λu H3=>r x l u H3 Q
theorem pJ {r:V->Option Int->Option Int->Hp->VK->Prop}(hr:Tw X r)(he:PE X e te)(hl:PO X lo tl)(hu:PO X hi th):PE X (.Subscript e (.Slice lo hi none p2) pos) (RC r te tl th):=by intro af s σ H Q I h;refine Subscript_ (aZ (he af s σ H _ I h) λv s1 U5=>?_);obtain ⟨x,H1,I1,r1,q1⟩:=U5;refine wpAny_Slice (aZ (hl af s1 σ H1 _ I1 q1) λvl s2 U4=>?_);obtain ⟨l,H2,I2,pl,q2⟩:=U4;refine aZ (hu af s2 σ H2 _ I2 q2) λvu s3 U3=>?_;obtain ⟨u,H3,I3,pu,q3⟩:=U3;rw [evalPart_none];refine wpAny_pure ?_;have I4:Inv X af σ H3 { s3 with heap:=s3.heap.push { cls:=.type "slice", data:=.fields #[vl,vu,.none] } }:=I3.kept (t':=s3.toks) λb ob q=>Heap.get?_push_of_some _ q;obtain ⟨T,id,hT,ht,hg⟩:=hr af { s3 with heap:=s3.heap.push { cls:=.type "slice", data:=.fields #[vl,vu,.none] } } σ H3 x v vl vu l u s3.heap.objs.size Q I4 r1 (Heap.IsSliceOf.new ..) pl pu q3;show wpAny (model X.prog X.w) X.A (subscriptTail e (.Slice lo hi none p2) v (.ref s3.heap.objs.size)) (EP X af σ Q) X.xe { s3 with heap:=s3.heap.push { cls:=.type "slice", data:=.fields #[vl,vu,.none] } };exact tail_any (ops:=[.ref s3.heap.objs.size,v]) ht hT hg (by with_unfolding_all rfl)
def nX (xs:List V)(lo hi:Option Int):List V:=(xs.drop (HT.cz xs.length 0 lo)).take (HT.cz xs.length xs.length hi - HT.cz xs.length 0 lo)
theorem jo (xs:List V)(lo hi:Option Int):(nX xs lo hi).length<=xs.length:=by unfold nX;rw [zu,yl];omega
def RZ (K:PySem.W.Frag):V->Option Int->Option Int->Hp->VK->Prop:=λx lo hi H Q=>∃ a xs,x=.ref a/\bq K H a xs /\
 ¬ (HT.cz xs.length 0 lo=0/\HT.cz xs.length xs.length hi=xs.length)/\∀ p,H p=none->Q (.ref p) (upd H p (.tup (nX xs lo hi)))
theorem Po:Tw X (RZ X.K):=by
 intro af s σ H x v vl vu lo hi sl Q I rx hs pl pu h;obtain ⟨a,xs,rfl,hx,hw,q⟩:=h;cases rx;obtain ⟨ay,r,ht,hz⟩:=I.tuple hx;have hlen:ay.toArray.size=xs.length:=by rw [zO];exact r.length.symm
 refine ⟨"tuple", _,PyProof.Rows.slot_tuple_getitem.lookup,ht.typeIs,?_⟩;refine HT.iC ht hs pl pu (by rw [hlen];exact hw) ?_ (by rw [hlen];exact hz);rw [hlen];refine ⟨.ref s.heap.objs.size,_,I.laid (t':=s.toks) (o:=.tup (nX xs lo hi)) (λb ob q=>Heap.get?_push_of_some _ q) (zE _) ?_,rfl,q _ (I.aY.fresh (zE _))⟩;exact ⟨⟨zz (jo xs lo hi) hz,j7⟩,_,(r.drop (HT.cz xs.length 0 lo)).take (HT.cz xs.length xs.length hi - HT.cz xs.length 0 lo),IsTup.new _ _⟩
end
def vv (n:Nat)(i:Int):Option Nat:=if 0<=i then (if i < n then some i.toNat else none) else if -(n:Int)<=i then some (i + n).toNat else none
def dI {α:Type}(xs:List α)(i:Int):Option α:=(vv xs.length i).bind λj=>xs[j]?
theorem nI {n:Nat}{i:Int}{j:Nat}(h:vv n i=some j):seqIndex? i n=some j/\j < n/\-(n:Int)<=i/\i < n:=by
 unfold vv at h;by_cases h0:0<=i
 ·rw [if_pos h0] at h;by_cases h1:i < n
  ·rw [if_pos h1] at h;have e:i.toNat=j:=Option.some.inj h;exact ⟨by rw [seqIndex_of h0 h1,e],by omega,by omega,h1⟩
  ·rw [if_neg h1] at h;cases h
 ·rw [if_neg h0] at h;by_cases h1:-(n:Int)<=i
  ·rw [if_pos h1] at h;have e:(i + n).toNat=j:=Option.some.inj h;exact ⟨by rw [seqIndex_neg (by omega) h1,e],by omega,h1,by omega⟩
  ·rw [if_neg h1] at h;cases h
theorem uA {α:Type}{xs:List α}{i:Int}{v:α}(h:dI xs i=some v):∃ j,seqIndex? i xs.length=some j/\xs[j]?=some v/\j < xs.length/\-(xs.length:Int)<=i/\i < xs.length:=by
 unfold dI at h;cases e:vv xs.length i with
 | none=>rw [e] at h;cases h
 | some j=>
  rw [e] at h;obtain ⟨h1,h2,h3,h4⟩:=nI e;exact ⟨j,h1,h,h2,h3,h4⟩
theorem xq {α:Type}{xs:List α}{j:Nat}{v:α}(h:xs[j]?=some v):dI xs (j:Int)=some v:=by
 have hj:j < xs.length:=(zC.mp h).1;have e:vv xs.length (j:Int)=some j:=by
  unfold vv;rw [if_pos (by omega),if_pos (by omega)];simp
 unfold dI;rw [e];exact h
theorem Mx {α:Type}(xs:List α)(v:α):dI (xs++[v]) (-1)=some v:=by
 have hl:(xs++[v]).length=xs.length + 1:=by simp
 have e:vv (xs++[v]).length (-1)=some xs.length:=by
  unfold vv;rw [hl,if_neg (by decide),if_pos (by omega)];congr 1;omega
 unfold dI;rw [e];show (xs++[v])[xs.length]?=some v;simp
def Oe (b:Expr):Prop:=∀ o i,subscripted b false o i=operate [o,i] (getItem o i)
def TX (X:Cx)(r:R2):Prop:=
 ∀ (value slice:Expr) (af:List (Addr×Obj)) (s:Shared) (σ:St) (H:Hp) (x y:V) (v u:Value) (Q:VK),Inv X af σ H s->RelV x v->RelV y u->r x y H Q ->
  subscripted slice false v u=operate [v,u] (getItem v u)->wpAny (model X.prog X.w) X.A (subscriptTail value slice v u) (EP X af σ Q) X.xe s
def Yp (X:Cx)(id:String)(r:V->List V->Hp->VK->Prop):Prop:=
 ∀ (af:List (Addr×Obj)) (s:Shared) (σ:St) (H:Hp) (x:V) (xs:List V) (v:Value) (us:List Value) (Q:VK),Inv X af σ H s->RelV x v->Vals xs us->r x xs H Q ->
  wpAny (model X.prog X.w) X.A (call (.builtin id) (v::us)) (EP X af σ Q) X.xe s
section
variable {X:Cx}{a b:Expr}{ta tb:TE}{pos:Pos}
theorem xc {r:R2}(hr:TX X r)(ha:PE X a ta)(hb:PE X b tb)(hs:Oe b):PE X (.Subscript a b pos) (M6 r ta tb):=by intro af s σ H Q I h;exact Subscript_ (QU ha hb I h λv u s2 x y H2 I2 rx ry q=>hr a b af s2 σ H2 x y v u Q I2 rx ry q (hs _ _))
def rR (K:PySem.W.Frag):R2:=λx y H Q=>∃ p xs i v,x=.ref p/\y=.int i/\aG K H p xs/\dI xs i=some v/\Q v H
def uZ (K:PySem.W.Frag):R2:=λx y H Q=>∃ p xs i v,x=.ref p/\y=.int i/\bq K H p xs/\dI xs i=some v/\Q v H
theorem NP:TX X (rR X.K):=by
 intro value slice af s σ H x y v u Q I rx ry h hs;obtain ⟨p,xs,i,z,rfl,rfl,hq,he,q⟩:=h;cases rx;obtain ⟨t,rfl⟩:=ry;obtain ⟨ay,r,pl,hz⟩:=I.list hq;obtain ⟨j,h1,h2,h3,h4,h5⟩:=uA he;obtain ⟨w,ew,uW⟩:=r.get h2;have hl:=r.length;have hn:=iW;have fin:EP X af σ Q w s:=⟨z,H,I,uW,q⟩;by_cases h0:0<=i
 ·have hj:i.toNat=j:=by
   rw [seqIndex_of h0 h5] at h1;exact Option.some.inj h1
  exact item_listR pl.isList h0 (by omega) (by rw [hj];simpa using ew) fin hs
 ·have hj:(i + (ay.toArray.size:Int)).toNat=j:=by
   rw [seqIndex_neg (by omega) h4] at h1;rw [zO,<- hl];exact Option.some.inj h1
  exact subscriptTail_builtinR (x:=w) pl.isList.typeIs slot_list_getitem.lookup
   (wpAny_getItem_list_neg (Q:=λr s'=>r=w/\EP X af σ Q r s') pl.isList (by omega) (by rw [zO] <;> omega) (by omega) (by rw [hj];simpa using ew) ⟨rfl,fin⟩) hs
theorem Qd:TX X (uZ X.K):=by
 intro value slice af s σ H x y v u Q I rx ry h hs;obtain ⟨p,xs,i,z,rfl,rfl,hq,he,q⟩:=h;cases rx;obtain ⟨t,rfl⟩:=ry;obtain ⟨ay,r,pl,hz⟩:=I.tuple hq;obtain ⟨j,h1,h2,h3,h4,h5⟩:=uA he;obtain ⟨w,ew,uW⟩:=r.get h2;have hl:=r.length;have hn:=iW;have fin:EP X af σ Q w s:=⟨z,H,I,uW,q⟩;exact subscriptTail_builtinR (x:=w) pl.typeIs slot_tuple_getitem.lookup
  (getItem_tuple (j:=j) (Q:=λr s'=>r=w/\EP X af σ Q r s') pl (by omega) (by omega) (by rw [zO,<- hl];exact h1) (by simpa using ew) ⟨rfl,fin⟩) hs
theorem rZ (ay:List Value)(n j:Nat)(u:Value):Obj.mapSeq (·.setIfInBounds j u) { cls:=.type "list", data:=.seq ay.toArray n }={ cls:=.type "list", data:=.seq (ay.set j u).toArray n }:=by simp [Obj.mapSeq]
theorem Inv.lst {af:List (Addr×Obj)}{σ:St}{H:Hp}{s:Shared}{p:Addr}{xs:List V}(I:Inv X af σ H s)(h:H p=some (.lst xs)) :
  ∃ (ay:List Value) (n:Nat),Vals xs ay/\s.heap.get? p=some { cls:=.type "list", data:=.seq ay.toArray n }/\xs.length<=sizeLine:=by
 obtain ⟨z,ay,n,r,e⟩:=I.aY p _ h;exact ⟨ay,n,r,e,z⟩
theorem Inv.PZ {af:List (Addr×Obj)}{σ:St}{H:Hp}{s:Shared}{p:Addr}{xs ys:List V}{ay its':List Value}{n n':Nat}{f:Obj->Obj}(I:Inv X af σ H s)(h:H p=some (.lst xs))
  (ho:s.heap.get? p=some { cls:=.type "list", data:=.seq ay.toArray n }) (hf:f { cls:=.type "list", data:=.seq ay.toArray n }={ cls:=.type "list", data:=.seq its'.toArray n' }) (r:Vals ys its') (hz:ys.length<=sizeLine) (t:Nat) :
  Inv X af σ (upd H p (.lst ys)) { s with heap:=s.heap.update p f,toks:=t }:=by
 have e:(s.heap.update p f).get? p=some { cls:=.type "list", data:=.seq its'.toArray n' }:=by
  rw [Heap.get?_update_self f ho (by rw [hf] <;> rfl),hf]
 refine I.write (x:=p) (e:=p) (by rw [h];trivial) (.inl rfl) (λb u hb q=>(Heap.get?_update_other _ _ (Ne.symm hb)).trans q) ⟨_,e⟩ ?_;exact ⟨hz,its',n',r,e⟩
def pB:V->V->V->Hp->(Hp->Prop)->Prop:=λo i v H Q=>∃ p xs k j,o=.ref p/\i=.int k/\H p=some (.lst xs)/\vv xs.length k=some j/\Q (upd H p (.lst (xs.set j v)))
theorem qI:QZ X pB:=by
 intro af s σ H o i v ov iv u Q I ro ri rv h;obtain ⟨p,xs,k,j,rfl,rfl,hp,hj,q⟩:=h;cases ro;obtain ⟨t,rfl⟩:=ri;obtain ⟨ay,n,r,ho,hz⟩:=I.lst hp;obtain ⟨h1,h2,h3,h4⟩:=nI hj;have hl:=r.length;have hn:=iW;have I':Inv X af σ (upd H p (.lst (xs.set j v))) { s with heap:=s.heap.update p (Obj.mapSeq (·.setIfInBounds j u)) }:=
  I.PZ hp ho (rZ ay n j u) (r.set rv j) (by rw [List.length_set];exact hz) s.toks
 by_cases h0:0<=k
 ·have hk:k.toNat=j:=by
   rw [seqIndex_of h0 h4] at h1;exact Option.some.inj h1
  exact PySem.W.ki_setAt ho h0 (by omega) (by rw [zO,<- hl];exact h4) (by rw [hk];exact ⟨_,I',q⟩)
 ·have hk:(k + (ay.toArray.size:Int)).toNat=j:=by
   rw [seqIndex_neg (by omega) h3] at h1;rw [zO,<- hl];exact Option.some.inj h1
  exact PySem.W.ki_setBack ho (by omega) (by rw [zO,<- hl];exact h3) (by omega) (by rw [hk];exact ⟨_,I',q⟩)
theorem nj (lo hi:Option Int)(n:Nat):(sliceBounds lo hi none n).1=((HT.cz n 0 lo:Nat):Int)/\(sliceBounds lo hi none n).2.1=((HT.cz n n hi:Nat):Int)/\(sliceBounds lo hi none n).2.2=1:=by
 refine ⟨?_,?_,rfl⟩
 ·cases lo with
  | none=>simp [sliceBounds,HT.cz]
  | some i=>
   simp only [sliceBounds,HT.cz,Option.getD_none,show (1:Int) > 0 by decide,if_true];by_cases h:i < 0
   ·simp only [h,if_true] <;> omega
   ·simp only [h,if_false] <;> omega
 ·cases hi with
  | none=>simp [sliceBounds,HT.cz]
  | some i=>
   simp only [sliceBounds,HT.cz,Option.getD_none,show (1:Int) > 0 by decide,if_true];by_cases h:i < 0
   ·simp only [h,if_true] <;> omega
   ·simp only [h,if_false] <;> omega
theorem lC (ay:List Value)(lo hi:Option Int):slicePick ay.toArray lo hi none=((ay.drop (HT.cz ay.length 0 lo)).take (HT.cz ay.length ay.length hi - HT.cz ay.length 0 lo)).toArray:=by obtain ⟨h1,h2,h3⟩:=nj lo hi ay.toArray.size;unfold slicePick;rw [h1,h2,h3];simp only [sliceRange_one,pick_run,zO] <;> rfl
def R0 (K:PySem.W.Frag):V->Option Int->Option Int->Hp->VK->Prop:=λx lo hi H Q=>∃ a xs,x=.ref a/\aG K H a xs/\∀ p,H p=none->Q (.ref p) (upd H p (.lst (nX xs lo hi)))
theorem Ni:Tw X (R0 X.K):=by intro af s σ H x v vl vu lo hi sl Q I rx hs pl pu h;obtain ⟨a,xs,rfl,hx,q⟩:=h;cases rx;obtain ⟨ay,r,ht,hz⟩:=I.list hx;have hlen:=r.length;refine ⟨"list", _,slot_list_getitem.lookup,ht.isList.typeIs,?_⟩;refine wpAny_getItem_list_slice ht.isList hs pl pu .none (by simp) ?_ (by rw [zO] <;> omega);rw [lC,<- hlen];refine ⟨.ref s.heap.objs.size,_,I.laid (t':=s.toks) (o:=.lst (nX xs lo hi)) (λb ob q=>Heap.get?_push_of_some _ q) (zE _) ?_,rfl,q _ (I.aY.fresh (zE _))⟩;exact ⟨zz (jo xs lo hi) hz,_,0,(r.drop (HT.cz xs.length 0 lo)).take (HT.cz xs.length xs.length hi - HT.cz xs.length 0 lo),Heap.get?_push_size _ rfl⟩
def bO:V->Bool
 | .bD=>true
 | .bl _=>true
 | .int _=>true
 | .str _=>true
 | _=>false
def qM:V->V->Bool
 | .bD,.bD=>true
 | .bl a,.bl b=>a == b
 | .bl a,.int b=>(if a then 1 else 0) == b
 | .int a,.bl b=>a == (if b then 1 else 0)
 | .int a,.int b=>a == b
 | .str a,.str b=>a == b
 | _,_=>false
theorem sO {A:Around}{s:Shared}{y x:V}{u v:Value}(ry:RelV y u)(rx:RelV x v)(fy:bO y=true)(fx:bO x=true):SeqAt.EqAt A s u v (qM y x):=by
 cases y with
 | bD=>
  cases ry;cases x with
  | bD=>cases rx;exact SeqAt.EqAt.same _
  | bl b=>cases rx;exact SeqAt.EqAt.none_bool b
  | int b=>obtain ⟨t,rfl⟩:=rx;exact SeqAt.EqAt.none_int b t
  | str b=>obtain ⟨t,rfl⟩:=rx;exact SeqAt.EqAt.none_str b t
  | _=>exact absurd (show false=true from fx) zM
 | bl a=>
  cases ry;cases x with
  | bD=>cases rx;exact SeqAt.EqAt.bool_none a
  | bl b=>cases rx;exact SeqAt.EqAt.bool_bool a b
  | int b=>obtain ⟨t,rfl⟩:=rx;exact SeqAt.EqAt.bool_int a b t
  | str b=>obtain ⟨t,rfl⟩:=rx;exact SeqAt.EqAt.bool_str a b t
  | _=>exact absurd (show false=true from fx) zM
 | int a=>
  obtain ⟨t',rfl⟩:=ry;cases x with
  | bD=>cases rx;exact SeqAt.EqAt.int_none a t'
  | bl b=>cases rx;exact SeqAt.EqAt.int_bool a t' b
  | int b=>obtain ⟨t,rfl⟩:=rx;exact SeqAt.EqAt.int_int a t' b t
  | str b=>obtain ⟨t,rfl⟩:=rx;exact SeqAt.EqAt.int_str a t' b t
  | _=>exact absurd (show false=true from fx) zM
 | str a=>
  obtain ⟨t',rfl⟩:=ry;cases x with
  | bD=>cases rx;exact SeqAt.EqAt.str_none a t'
  | bl b=>cases rx;exact SeqAt.EqAt.str_bool a t' b
  | int b=>obtain ⟨t,rfl⟩:=rx;exact SeqAt.EqAt.str_int a t' b t
  | str b=>obtain ⟨t,rfl⟩:=rx;exact SeqAt.EqAt.str_str a t' b t
  | _=>exact absurd (show false=true from fx) zM
 | _=>exact absurd (show false=true from fy) zM
def sN (x:V)(u:Value):Bool:=match u with
 | .none=>qM .bD x
 | .bool b=>qM (.bl b) x
 | .int i _=>qM (.int i) x
 | .str z _=>qM (.str z) x
 | _=>false
theorem Ma {x y:V}{u:Value}(r:RelV y u)(f:bO y=true):sN x u=qM y x:=by
 cases y with
 | bD=>cases r;rfl
 | bl b=>cases r;rfl
 | int i=>obtain ⟨t,rfl⟩:=r;rfl
 | str z=>obtain ⟨t,rfl⟩:=r;rfl
 | _=>exact absurd (show false=true from f) zM
theorem iI {x:V}:∀ {xs:List V}{us:List Value},Vals xs us->xs.all bO=true->us.any (sN x)=xs.any λy=>qM y x
 | _,_,.nil,_=>rfl
 | y::xs,u::us,.cons r t,f=>by
  rw [List.all_cons,zb] at f;rw [yw,yw,Ma r f.1,iI t f.2]
theorem fD {A:Around}{s:Shared}{x:V}{v:Value}(rx:RelV x v)(fx:bO x=true):∀ {xs:List V}{us:List Value},Vals xs us->xs.all bO=true->∀ u∈us,SeqAt.EqAt A s u v (sN x u)
 | _,_,.nil,_=>λu hu=>by cases hu
 | y::xs,u::us,.cons r t,f=>λu' hu=>by
  rw [List.all_cons,zb] at f;rcases zK.mp hu with rfl | hu
  ·rw [Ma r f.1];exact sO r rx f.1 fx
  ·exact fD rx fx t f.2 u' hu
def NT (x:V)(xs:List V):Bool:=xs.any λy=>qM y x
def Wr (K:PySem.W.Frag)(neg:Bool):R2:=λx y H Q=>∃ p xs,y=.ref p/\(aG K H p xs\/bq K H p xs)/\bO x=true/\xs.all bO=true/\Q (.bl (if neg then !NT x xs else NT x xs)) H
theorem vc:fL X (compareOp .In) (Wr X.K false):=by
 intro af s σ H x y v u Q I rx ry h;obtain ⟨p,xs,rfl,hq,fx,fs,q⟩:=h;cases ry;rcases hq with hq | hq
 ·obtain ⟨ay,r,pl,hz⟩:=I.list hq;refine SeqAt.in_listAt (sN x) pl.isList (λw hw=>fD rx fx r fs w (by simpa using hw)) ⟨.bl _,H,I,rfl,?_⟩;rw [show ay.toArray.any (sN x)=ay.any (sN x) by simp,iI r fs];exact q
 ·obtain ⟨ay,r,pl,hz⟩:=I.tuple hq;refine SeqAt.in_tupleAt (sN x) pl (λw hw=>fD rx fx r fs w (by simpa using hw)) ⟨.bl _,H,I,rfl,?_⟩;rw [show ay.toArray.any (sN x)=ay.any (sN x) by simp,iI r fs];exact q
theorem nC:fL X (compareOp .NotIn) (Wr X.K true):=by
 intro af s σ H x y v u Q I rx ry h;obtain ⟨p,xs,rfl,hq,fx,fs,q⟩:=h;cases ry;rcases hq with hq | hq
 ·obtain ⟨ay,r,pl,hz⟩:=I.list hq;refine SeqAt.notIn_listAt (sN x) pl.isList (λw hw=>fD rx fx r fs w (by simpa using hw)) ⟨.bl _,H,I,rfl,?_⟩;rw [show ay.toArray.any (sN x)=ay.any (sN x) by simp,iI r fs];exact q
 ·obtain ⟨ay,r,pl,hz⟩:=I.tuple hq;refine SeqAt.notIn_tupleAt (sN x) pl (λw hw=>fD rx fx r fs w (by simpa using hw)) ⟨.bl _,H,I,rfl,?_⟩;rw [show ay.toArray.any (sN x)=ay.any (sN x) by simp,iI r fs];exact q
theorem n5:dc X (.builtin "len") (λxs H Q=>∃ p ys,xs=[.ref p]/\(aG X.K H p ys\/bq X.K H p ys)/\Q (.int ys.length) H):=by
 intro af s σ H xs us Q I r h;obtain ⟨p,ys,rfl,hq,q⟩:=h;obtain ⟨u,rfl,rx⟩:=vals1 r;cases rx;have hn:=iW;rcases hq with hq | hq
 ·obtain ⟨ay,r',pl,hz⟩:=I.list hq;have hlen:=r'.length;exact Calls.call_len_list pl.isList (by simp only [zO] <;> omega) ⟨.int ys.length,H,I.tok _,⟨s.toks + 1,by rw [zO,hlen]⟩,q⟩
 ·obtain ⟨ay,r',pl,hz⟩:=I.tuple hq;have hlen:=r'.length;exact len_tuple pl (by simp only [zO] <;> omega) ⟨.int ys.length,H,I.tok _,⟨s.toks + 1,by rw [zO,hlen]⟩,q⟩
theorem nZ:dc X (.type "list") (λxs H Q=>∃ p ys,xs=[.ref p]/\(aG X.K H p ys\/bq X.K H p ys)/\∀ l,H l=none->Q (.ref l) (upd H l (.lst ys))):=by
 intro af s σ H xs us Q I r h;obtain ⟨p,ys,rfl,hq,q⟩:=h;obtain ⟨u,rfl,rx⟩:=vals1 r;cases rx;have fin:∀ (ay:List Value),Vals ys ay->ys.length<=sizeLine->∀ (h':Heap) (c':Nat),(∀ b o',s.heap.get? b=some o'->h'.get? b=some o') ->
   h'.get? s.heap.objs.size=some { cls:=.type "list", dict:=none,data:=.seq ay.toArray c',slots:=#[] }->EP X af σ Q (.ref s.heap.objs.size) { s with heap:=h' }:=λay r' hz h' c' kp e=>
  ⟨.ref s.heap.objs.size,_,I.laid (t':=s.toks) kp (zE _) (show aW X.prog X.w _ h' _ (.lst ys) from ⟨hz,ay,c',r',e⟩),rfl,q _ (I.aY.fresh (zE _))⟩
 rcases hq with hq | hq
 ·obtain ⟨ay,r',pl,hz⟩:=I.list hq;have hlen:=r'.length;obtain ⟨o,ho,hc,n,hd⟩:=pl.isList;exact call_list_seq p (.inl rfl) ho hc hd (λh' c' kp e=>fin ay r' hz h' c' kp e) (by simp only [zO] <;> omega)
 ·obtain ⟨ay,r',pl,hz⟩:=I.tuple hq;have hlen:=r'.length;obtain ⟨o,ho,hc,n,hd⟩:=pl;exact call_list_seq p (.inr rfl) ho hc hd (λh' c' kp e=>fin ay r' hz h' c' kp e) (by simp only [zO] <;> omega)
theorem dH:dc X (.type "tuple") (λxs H Q=>∃ p ys,xs=[.ref p]/\((aG X.K H p ys/\∀ l,H l=none->Q (.ref l) (upd H l (.tup ys)))\/(bq X.K H p ys/\Q (.ref p) H))):=by
 intro af s σ H xs us Q I r h;obtain ⟨p,ys,rfl,h⟩:=h;obtain ⟨u,rfl,rx⟩:=vals1 r;cases rx;rcases h with ⟨hq,q⟩ | ⟨hq,q⟩
 ·obtain ⟨ay,r',pl,hz⟩:=I.list hq;have hlen:=r'.length;refine call_tuple_list pl.isList (λh' kp=>?_) (by simp only [zO] <;> omega);have I1:Inv X af σ H { s with heap:=h' }:=I.kept (t':=s.toks) kp;have I2:Inv X af σ (upd H h'.objs.size (.tup ys)) { s with heap:=h'.push { cls:=.type "tuple", data:=.seq ay.toArray } }:=
   I1.laid (t':=s.toks) (λb o e=>Heap.get?_push_of_some _ e) (zE _) (show aW X.prog X.w _ _ _ (.tup ys) from ⟨⟨hz,j7⟩,ay,r',IsTup.new _ _⟩)
  exact ⟨.ref h'.objs.size,_,I2,rfl,q _ (I1.aY.fresh (zE _))⟩
 ·obtain ⟨ay,r',pl,hz⟩:=I.tuple hq;exact call_tuple_same pl ⟨.ref p,H,I,rfl,q⟩
def V5 (K:PySem.W.Frag)(T:String)(x:V)(H:Hp):Prop:=match x with
 | .str _=>T = "str"
 | .int _=>T = "int"
 | .ref p=>(T = "list" /\ ∃ xs,aG K H p xs)\/(T = "tuple" /\ ((∃ o,K.lookup p=some o/\o.cls=.type "tuple" /\ o.dict=none)\/∃ xs,H p=some (.tup xs))) \/
   (T = "dict" /\ ((∃ aF,H p=some (.dK aF))\/∃ aF,H p=some (.dT aF)))\/(T = "set" /\ ∃ S n,H p=some (.set S n))
 | _=>False
theorem Kr {af:List (Addr×Obj)}{σ:St}{H:Hp}{s:Shared}{T:String}{x:V}{v:Value}(I:Inv X af σ H s)(r:RelV x v)(ty:V5 X.K T x H) :
  s.TypeIs v T/\∀ a,v=.ref a->∃ ob,s.heap.get? a=some ob/\ob.dict=none:=by
 cases x with
 | str z=>
  obtain ⟨t,rfl⟩:=r;cases (show T = "str" from ty);exact ⟨typeIs_str s z t,λ_ e=>nomatch e⟩
 | int i=>
  obtain ⟨t,rfl⟩:=r;cases (show T = "int" from ty);exact ⟨typeIs_int s i t,λ_ e=>nomatch e⟩
 | ref p=>
  cases r;rcases ty with ⟨rfl,xs,hq⟩ | ⟨rfl,⟨o,hk,hc,hd⟩ | ⟨xs,hk⟩⟩ | ⟨rfl,hk⟩ | ⟨rfl,S,n,hk⟩
  ·obtain ⟨ay,_,pl,_⟩:=I.list hq;refine ⟨pl.isList.typeIs,λa e=>?_⟩;cases e;obtain ⟨o,n,e,c,hd,_⟩:=pl;exact ⟨o,e,hd⟩
  ·refine ⟨⟨o,I.oE p o hk,hc⟩,λa e=>?_⟩;cases e;exact ⟨o,I.oE _ o hk,hd⟩
  ·obtain ⟨nb,_,_,o,e,c,_⟩:=I.aY p _ hk;exact ⟨⟨o,e,c⟩,λa z=>by cases z;exact ⟨o,e,nb.2 o e⟩⟩
  ·have z:∃ o,s.heap.get? p=some o/\o.ExactDict:=by
    rcases hk with ⟨aF,hk⟩ | ⟨aF,hk⟩
    ·obtain ⟨_,_,_,_,o,_,_,e,ex,_⟩:=I.aY p _ hk;exact ⟨o,e,ex⟩
    ·obtain ⟨_,_,_,_,o,_,_,e,ex,_⟩:=I.aY p _ hk;exact ⟨o,e,ex⟩
   obtain ⟨o,e,ex⟩:=z;refine ⟨⟨o,e,ex.1⟩,λa e2=>?_⟩;cases e2;exact ⟨o,e,ex.2.1⟩
  ·obtain ⟨o,_,_,_,e,ex,_⟩:=I.aY p _ hk;refine ⟨⟨o,e,ex.1⟩,λa e2=>?_⟩;cases e2;exact ⟨o,e,ex.2.1⟩
 | _=>exact False.elim ty
def Wb (K:PySem.W.Frag)(T:String)(r:V->List V->Hp->VK->Prop)(to:TE):TE:=fun σ H Q=>to σ H λx H1=>V5 K T x H1/\r x [] H1 Q
def RL (K:PySem.W.Frag)(T:String)(r:V->List V->Hp->VK->Prop)(to:TE)(t:TA):TE:=fun σ H Q=>to σ H λx H1=>V5 K T x H1/\t σ H1 λxs H2=>r x xs H2 Q
variable {o e:Expr}{es:List Expr}{to:TE}{t:TA}{name:Str}{apos lH:Pos}{T id:String}{r:V->List V->Hp->VK->Prop}
theorem PD (pa:PlainAttrs T)(slot:Slot T name id)(Xc:typeOf (.builtin id)=pure (.type "method_descriptor"))(hm:Yp X id r)(ho:PE X o to)
  (LM:attributeBase o name X.env (eval o X.env)=eval o X.env:=by rfl) (LG:(apos.endLine == lH.line)=true:=by rfl):PE X (.Call (.Attribute o name apos) [] [] lH) (Wb X.K T r to):=by
 intro af s σ H Q I h;refine wpAny_Call_method0_late LM LG (aZ (ho af s σ H _ I h) λv s1 U1=>?_);obtain ⟨x,H1,I1,r1,ty,q1⟩:=U1;obtain ⟨h1,h2⟩:=Kr I1 r1 ty;exact ⟨T,id,pa,slot,Xc,h1,h2,Calls.callWith_builtin rfl (PySem.evalArgs_none (hm af s1 σ H1 x [] v [] Q I1 r1 .nil q1))⟩
theorem di (pa:PlainAttrs T)(slot:Slot T name id)(Xc:typeOf (.builtin id)=pure (.type "method_descriptor"))(hm:Yp X id r)(ho:PE X o to)(ha:PA X (e::es) t)
  (LM:attributeBase o name X.env (eval o X.env)=eval o X.env:=by rfl)
  (XF:((backTo lH (starEach (e::es) X.env)).all (λx=>!x.1) && (backToKw lH (keywordEach [] X.env)).all (λx=>x.1.isSome)
   && decide ((e::es).length + ([]:List Keyword).length + (if ([]:List Keyword).isEmpty then 0 else 1) < 30))=true:=by rfl)
  (LG:(apos.endLine == lH.line)=true:=by rfl) (hs:starEach (e::es) X.env=(false,eval e X.env)::starEach es X.env:=by rfl) (Qk:(backTo lH (starEach es X.env)).any (·.1)=false:=by rfl) :
  PE X (.Call (.Attribute o name apos) (e::es) [] lH) (RL X.K T r to t):=by
 intro af s σ H Q I h;refine wpAny_Call_method_late LM XF LG rfl (aZ (ho af s σ H _ I h) λv s1 U0=>?_);obtain ⟨x,H1,I1,r1,ty,q1⟩:=U0;obtain ⟨h1,h2⟩:=Kr I1 r1 ty;refine ⟨T,id,pa,slot,Xc,h1,h2,?_⟩;have hA:=ha lH af s1 σ H1 _ I1 q1;rw [hs] at hA ⊢;refine Calls.callWith_builtin (by show (false || (backTo lH (starEach es X.env)).any (·.1))=false;rw [Qk] <;> rfl) (Calls.evalArgs_plain ?_);exact aZ hA λus s2 ⟨vs,H2,I2,r2,q2⟩=>hm af s2 σ H2 x vs v us Q I2 r1 r2 q2
/- xs.append(e),list.index on a Sb tuple .. are Yp facts of 06m -/
end
def Yq (X:Cx)(id:String)(r:V->List V->Hp->VK->Prop):Prop:=
 ∀ (af:List (Addr×Obj)) (s:Shared) (σ:St) (H:Hp) (x:V) (xs:List V) (v:Value) (us:List Value) (Q:VK),Inv X af σ H s->RelV x v->Vals xs us->r x xs H Q ->
  wpAny (model X.prog X.w) X.A (call (.builtin id) (v::us)) (EP X af σ Q) X.xe s
theorem Vals.one:∀ {x:V}{us:List Value},Vals [x] us->∃ u,us=[u]/\RelV x u
 | _,_,.cons r .nil=>⟨_,rfl,r⟩
theorem Vals.zero:∀ {us:List Value},Vals [] us->us=[]
 | _,.nil=>rfl
theorem Vals.dropLast {xs:List V}{us:List Value}(h:Vals xs us):Vals xs.dropLast us.dropLast:=by
 induction h with
 | nil=>exact .nil
 | cons r t ih=>
  cases t with
  | nil=>exact .nil
  | cons q t'=>exact .cons r ih
theorem Vals.eraseIdx:∀ {xs:List V}{us:List Value} (i:Nat),Vals xs us->Vals (xs.eraseIdx i) (us.eraseIdx i)
 | _,_,_,.nil=>.nil
 | _,_,0,.cons _ t=>t
 | _,_,i + 1,.cons r t=>.cons r (Vals.eraseIdx i t)
theorem Vals.reverse {xs:List V}{us:List Value}(h:Vals xs us):Vals xs.reverse us.reverse:=by
 induction h with
 | nil=>exact .nil
 | cons r t ih=>rw [yx,yx];exact Vals.append ih (.cons r .nil)
theorem Vals.rep {xs:List V}{us:List Value}(h:Vals xs us):∀ k:Nat,Vals (List.replicate k xs).flatten (List.replicate k us).flatten
 | 0=>.nil
 | k + 1=>by
  rw [yR,yR,yi,yi];exact Vals.append h (Vals.rep h k)
theorem sM {α:Type}(l:List α):l.eraseIdx (l.length - 1)=l.dropLast:=by
 induction l with
 | nil=>rfl
 | cons a r ih=>
  cases r with
  | nil=>rfl
  | cons b r=>
   have e:(a::b::r).length - 1=((b::r).length - 1) + 1:=by
    have h1:(a::b::r).length=r.length + 2:=rfl;have h2:(b::r).length=r.length + 1:=rfl;omega
   rw [e,List.eraseIdx_cons_succ,ih];all_goals rfl
theorem mq {α:Type}:∀ (l:List α) (i:Nat),(l.eraseIdx i).length<=l.length
 | [],_=>zE _
 | _::_,0=>yC _
 | _::r,i + 1=>xC (mq r i)
theorem foldl_rep (ay:List Value):∀ (k:Nat) (acc:List Value),
  List.foldl (λx1 x2=>x1++x2) acc.toArray (List.replicate k ay.toArray)=(acc++(List.replicate k ay).flatten).toArray
 | 0,acc=>by simp
 | k + 1,acc=>by
  have e:acc.toArray++ay.toArray=(acc++ay).toArray:=by simp
  have e2:(acc++ay)++(List.replicate k ay).flatten=acc++(List.replicate (k + 1) ay).flatten:=by
   rw [yR,yi,List.append_assoc]
  rw [<-e2,<- foldl_rep ay k (acc++ay),<- e,yR,List.foldl_cons]
section
variable {X:Cx}{af:List (Addr×Obj)}{σ:St}{H:Hp}{s:Shared}{l b:Addr}{xs ys zs:List V}
theorem Inv.P0 {ay its':List Value}{n:Nat}{f:Array Value->Array Value}{t':Nat}(I:Inv X af σ H s)(hH:H l=some (.lst xs))
  (e:s.heap.get? l=some { cls:=.type "list", data:=.seq ay.toArray n }) (hf:f ay.toArray=its'.toArray) (hv:Vals ys its') (hz:ys.length<=sizeLine) :
  Inv X af σ (upd H l (.lst ys)) { s with heap:=s.heap.update l (Obj.mapSeq f),toks:=t' }:=by
 have q:=PySem.IsL.update e f;rw [hf] at q;refine I.write (x:=l) (e:=l) (by rw [hH];exact trivial) (.inl rfl) (λb' u hb hu=>(Heap.get?_update_other s.heap (Obj.mapSeq f) (Ne.symm hb)).trans hu) ⟨_,q⟩ ?_;exact ⟨hz,its',_,hv,q⟩
theorem Inv.Sh {ay:List Value}{t':Nat}(I:Inv X af σ H s)(hv:Vals ys ay)(hz:ys.length<=sizeLine) :
  Inv X af σ (upd H s.heap.objs.size (.lst ys)) { s with heap:=s.heap.push { cls:=.type "list", data:=.seq ay.toArray },toks:=t' }:=
 I.laid (λ_ _ q=>Heap.get?_push_of_some _ q) (zE _) ⟨hz,ay,0,hv,Heap.get?_push_size _ rfl⟩
theorem Inv.fresh (I:Inv X af σ H s):H s.heap.objs.size=none:=I.aY.fresh (zE _)
theorem Inv.sd (I:Inv X af σ H s)(hH:H l=some (.lst xs)):xs.length<=sizeLine/\∃ (ay:List Value) (n:Nat),Vals xs ay/\xs.length=ay.length/\s.heap.get? l=some { cls:=.type "list", data:=.seq ay.toArray n }:=by obtain ⟨z,ay,n,r,e⟩:=I.aY l _ hH;exact ⟨z,ay,n,r,r.length,e⟩
theorem Lj {n:Nat}(h:n<=sizeLine):Builtin.List.listTooLong n=false:=by unfold Builtin.List.listTooLong;exact decide_eq_false (by omega)
end
section
variable {X:Cx}
def ig:V->List V->Hp->VK->Prop:=λx vs H Q=>∃ l xs y,x=.ref l/\vs=[y]/\H l=some (.lst xs)/\xs.length < sizeLine/\Q .bD (upd H l (.lst (xs++[y])))
theorem wL:Yq X "list.append" ig:=by intro af s σ H x vs v us Q I rx rv h;obtain ⟨l,xs,y,rfl,rfl,hH,hz,q⟩:=h;cases rx;obtain ⟨u,rfl,ru⟩:=rv.one;obtain ⟨z,ay,n,r,hl,e⟩:=I.sd hH;refine call_meets F.slot_list_append ⟨_,e,rfl⟩ F.entry_list_append (F.args_list_append_2 _ _) (PySem.list_append l ay.toArray n u (by rw [zO];omega)) ⟨e,?_⟩;refine ⟨.bD,_,I.P0 (its':=ay++[u]) hH e (by simp) (r.append (.cons ru .nil)) ?_,rfl,q⟩;rw [zN,yV];omega
def Wo:V->List V->Hp->VK->Prop:=λx vs H Q=>∃ l xs y,x=.ref l/\vs=[]/\H l=some (.lst xs)/\xs[xs.length - 1]?=some y/\Q y (upd H l (.lst xs.dropLast))
theorem PX:Yq X "list.pop" Wo:=by
 intro af s σ H x vs v us Q I rx rv h;obtain ⟨l,xs,y,rfl,rfl,hH,hy,q⟩:=h;cases rx;have hus:=rv.zero;subst hus;obtain ⟨z,ay,n,r,hl,e⟩:=I.sd hH;obtain ⟨u,hu,ru⟩:=r.get hy;have hy':ay.toArray[ay.toArray.size - 1]?=some u:=by
  show ay.toArray[ay.length - 1]?=some u;rw [<-Array.getElem?_toList,<- hl];exact hu
 refine call_meets F.slot_list_pop ⟨_,e,rfl⟩ F.entry_list_pop (F.args_list_pop_1 _) (MeetsSeq.list_pop_last l ay.toArray n u hy' (by rw [zO];omega)) ⟨e,?_⟩;refine ⟨y,_,I.P0 (its':=ay.dropLast) hH e ?_ r.dropLast ?_,ru,q⟩
 ·show ay.toArray.eraseIdxIfInBounds (ay.toArray.size - 1)=ay.dropLast.toArray;rw [zO,List.eraseIdxIfInBounds_toArray,sM]
 ·rw [List.length_dropLast];omega
def Pw:V->List V->Hp->VK->Prop:=λx vs H Q=>∃ l xs i k y,x=.ref l/\vs=[.int i]/\H l=some (.lst xs)/\-(2 ^ 63)<=i/\i < 2 ^ 63/\seqIndex? i xs.length=some k/\xs[k]?=some y/\Q y (upd H l (.lst (xs.eraseIdx k)))
theorem Lo:Yq X "list.pop" Pw:=by
 intro af s σ H x vs v us Q I rx rv h;obtain ⟨l,xs,i,k,y,rfl,rfl,hH,h1,h2,hk,hy,q⟩:=h;cases rx;obtain ⟨u,rfl,ru⟩:=rv.one;obtain ⟨t,rfl⟩:=ru;obtain ⟨z,ay,n,r,hl,e⟩:=I.sd hH;obtain ⟨w,hw,uW⟩:=r.get hy;refine call_meets F.slot_list_pop ⟨_,e,rfl⟩ F.entry_list_pop (F.args_list_pop_2 _ _)
  (MeetsSeq.list_pop_at l ay.toArray n i t k w (fitsIndex_both h1 h2) (by rw [zO,<- hl];exact hk) (by rw [<-Array.getElem?_toList];exact hw) (by rw [zO];omega)) ⟨e,?_⟩
 refine ⟨y,_,I.P0 (its':=ay.eraseIdx k) hH e ?_ (r.eraseIdx k) ?_,uW,q⟩
 ·show ay.toArray.eraseIdxIfInBounds k=(ay.eraseIdx k).toArray;rw [List.eraseIdxIfInBounds_toArray]
 ·have:=mq xs k;omega
def Wt:R2:=λx y H Q=>∃ l b xs zs,x=.ref l/\y=.ref b/\H l=some (.lst xs)/\H b=some (.lst zs)/\xs.length + zs.length<=sizeLine/\∀ p,H p=none->Q (.ref p) (upd H p (.lst (xs++zs)))
theorem Lg:fL X (binaryOp .Add) Wt:=by
 intro af s σ H x y v u Q I rx ry h;obtain ⟨l,b,xs,zs,rfl,rfl,hH,hB,hz,q⟩:=h;cases rx;cases ry;obtain ⟨z,ay,n,r,hl,e⟩:=I.sd hH;obtain ⟨z2,cE,n2,r2,N3,e2⟩:=I.sd hB;refine PySem.P.add_list e e2 ?_ (by rw [zO,zO];omega);have ea:ay.toArray++cE.toArray=(ay++cE).toArray:=by simp
 rw [ea];exact ⟨.ref _,_,I.Sh (t':=s.toks) (r.append r2) (by rw [zN];omega),rfl,q _ I.fresh⟩
def Wn:R2:=λx y H Q=>∃ l k xs,x=.ref l/\y=.int k/\H l=some (.lst xs)/\-(2 ^ 63)<=k/\k < 2 ^ 63/\xs.length * k.toNat<=sizeLine /\
 ∀ p,H p=none->Q (.ref p) (upd H p (.lst (List.replicate k.toNat xs).flatten))
theorem len_rep {α:Type}(xs:List α)(k:Nat):(List.replicate k xs).flatten.length=k * xs.length:=by
 induction k with
 | zero=>simp
 | succ k ih=>rw [yR,yi,zN,ih,Nat.succ_mul,Nat.add_comm]
theorem Ld:fL X (binaryOp .Mult) Wn:=by
 intro af s σ H x y v u Q I rx ry h;obtain ⟨l,k,xs,rfl,rfl,hH,h1,h2,hz,q⟩:=h;cases rx;obtain ⟨t,rfl⟩:=ry;obtain ⟨z,ay,n,r,hl,e⟩:=I.sd hH;have hlen:ay.toArray.size * k.toNat<=sizeLine:=by rw [zO,<- hl];exact hz
 have XM:¬ ay.toArray.size * k.toNat > (2 ^ 63 - 1) / 8:=by
  have:(sizeLine:Nat)<=(2 ^ 63 - 1) / 8:=by decide
  omega
 have XE:¬ (!Builtin.List.listFitsIndex k)=true:=by
  rw [fitsIndex_both h1 h2];exact zM
 have SK:¬ Builtin.List.listTooLong (ay.toArray.size * k.toNat)=true:=by
  rw [Lj hlen];exact zM
 have Qn:List.foldl (λx1 x2=>x1++x2) #[] (List.replicate (if ay.toArray.isEmpty=true then 0 else k.toNat) ay.toArray)=(List.replicate k.toNat ay).flatten.toArray:=by
  have f0:∀ m:Nat,List.foldl (λx1 x2=>x1++x2) #[] (List.replicate m ay.toArray)=(List.replicate m ay).flatten.toArray:=λm=>by
   have:=foldl_rep ay m [];rw [xJ] at this;exact this
  rw [f0];cases ay with
  | nil=>simp
  | cons a r'=>rw [if_neg (by simp)]
 refine wpAny_binaryOp_repeat_ref (T := "list") (U := "int") (by decide) ⟨_,e,rfl⟩ (λs'=>typeIs_int s' k t) noFill_list_mul F.fills_int_mul F.slot_int_rmul repeat_list F.slot_int_index.lookup
  (call_meets F.slot_int_rmul (typeIs_int s k t) F.entry_int_rmul (F.args_int_rmul_2 _ _) (int___rmul___int_list k t l ay.toArray n)
   ⟨e,rfl,⟨_,e,rfl⟩,call_meets F.slot_list_mul ⟨_,e,rfl⟩ F.entry_list_mul (F.args_list_mul_2 _ _) (AutoListH.list___mul___list_int_3 l ay.toArray n k t XE XM SK) ⟨e,?_⟩⟩)
 rw [Qn];exact ⟨.ref _,_,I.Sh (t':=s.toks) (r.rep k.toNat) (by rw [len_rep,Nat.mul_comm];exact hz),rfl,q _ I.fresh⟩
end
section
variable {prog:Program}{w:World}{A:Around}{E:Value->Shared->Prop}{s:Shared}
set_option maxRecDepth 100000 in
end
section
variable {X:Cx}
end
end L2
namespace Att
open PySem PySem.W PySem.Calls PyProof.Rows
theorem jz {P:Params}{h:Heap}:∀ (ns:List Int) (vs:List Value),WellAll P h vs (ns.map WData.int)->IntsAre vs ns:=by
 intro ns;induction ns with
 | nil=>
  intro vs w;rw [yX] at w;cases w;exact .nil
 | cons n ns ih=>
  intro vs w;rw [zf] at w;cases w with
  | cons a b=>
   cases a;exact .cons _ _ (ih _ b)
theorem uU {l:OpenLaw}{n:Nat}(hn:l.most=some n){P:Params}{h:Heap}{args:List WData}{vals:List Value}
  (NX:l.row.toRowW.claim.pre args=true) (WY:WellAll P h vals args) :
  ∃ a vs ns,vals=[Value.ref a]/\args=[WData.list (ns.map WData.int)]/\h.get? a=some { cls:=.type "list", data:=.seq vs.toArray }/\IntsAre vs ns/\ns.length<=n:=by
 have hsh:WShape.hasAll [] args [.list .int]=true:=(pre_splitW NX).1;have hc:l.pre.holds [] { args:=args }=true:=(pre_splitW NX).2;obtain ⟨d,r,rfl,h1,h2⟩:=hasAllW_cons hsh;obtain rfl:=hasAllW_nil h2;obtain ⟨xs,rfl,h3⟩:=hasW_list h1;obtain ⟨ns,rfl⟩:=items_int h3;have hlen:ns.length<=n:=by
  unfold OpenLaw.pre at hc;have h4:(WTm.not (.lt (.lit (.int (n:Int))) (.len (.arg 0)))).holds [] { args:=[.list (ns.map .int)] }=true:=by
   have h4:=(holds_andW hc).1;rw [hn] at h4;exact h4
  have h5:=condW_of h4 (w_not (w_lt w_lit (w_len_list (w_arg rfl))));rw [zA] at h5;refine Nat.le_of_not_lt λq=>?_;have q':(n:Int) < ((ns.length:Nat):Int):=by omega
  first
   | (rw [decide_eq_true q'] at h5;exact absurd h5 (by decide))
   | (simp at h5;omega)
 cases WY with
 | cons w1 w2=>
  cases w2;cases w1 with
  | list ho jA=>exact ⟨_,_,ns,rfl,rfl,ho,jz ns _ jA,hlen⟩
theorem u5 (l:OpenLaw)(args:List WData):l.row.toRowW.claim.post args (.bool true) args=true:=
 postW_of (r:=l.row.toRowW) (X:=(true == true))
  (show WShape.has [] (.bool true) .bool=true by first | rfl | decide | simp [WShape.has,WShape.arms,WShape.armsAll])
  (show (WTm.eq .res (.lit (.bool true))).value [] { args:=args,res:=some (.bool true),after:=args }=some (.bool (true == true)) from w_eq_bool (w_res rfl) w_lit) rfl
theorem ql {l:OpenLaw}{n:Nat}{q:Program}{loose:List Str}{XP:(Str->Option Value)->Heap->Prop}{YP:World->Heap->Prop}{d:DefRec}
  (hn:l.most=some n) (SX:d.params.defaults=[])
  (call:∀ (w:World) (cO aN:Shared) (mg mb:Str->Option Value) (fa:Addr) (o:Obj) (pm cd doc:Value) (a:Addr) (vs:List Value) (ns:List Int),
   Ground q loose [] XP w cO mg mb aN.heap->YP w aN.heap ->
   aN.heap.get? fa=some o->o.data=.func (docDef d.name d.params d.body d.scope pm cd doc)->aN.heap.CodeRec cd d.name->mg d.name=some (.ref fa) ->
   aN.heap.get? a=some { cls:=.type "list", data:=.seq vs.toArray }->IntsAre vs ns->ns.length<=n->aN.gens=#[] ->
   codeAny (model l.prog w) callerA (.call (.ref fa) ⟨[.ref a],[]⟩) (λr s'=>r=.ok (.ret (.bool true))/\OldK aN.heap s'.heap/\s'.os=aN.os/\AllBare s'.gens) aN) :
  WalkO q loose XP YP l.row.toRowW d [] (λf vs=>PySem.call f vs):=by
 intro w cO aN mg mb G Y fa o pm cd doc dV kV ho hd p5 hD hmg hg args vals as NX abC hrd WY hlo;obtain rfl:dV=.none:=Dflts.none hD SX;obtain rfl:kV=.none:=Dflts.noKw hD;obtain ⟨a,vs,ns,rfl,rfl,Qm,hints,hlen⟩:=uU hn NX WY;refine enter_call (codeAny_mono (call w cO aN mg mb fa o pm cd doc a vs ns G Y ho (fd_plain hd) p5 hmg Qm hints hlen hg) λr s' hq=>?_);obtain ⟨rfl,h2,h3,h4⟩:=hq;exact ⟨.inl ⟨.bool true,.bool true,[],rfl,λ_=>rfl,.bool true,u5 l _,λ_=>⟨List.Pairwise.nil,λ_ hm=>(nomatch hm)⟩⟩,h2,h3,h4⟩
section
variable {prog:Program}{w:World}{A:Around}{E:Value->Shared->Prop}{s:Shared}{K:Frag}
def ledger (h:Heap)(L d:Addr):List (Addr×Obj):=(List.range h.objs.size).filterMap λa=>if a=L\/a=d then none else (h.get? a).map λo=>(a,o)
end
end Att
namespace L2
open PySem PySem.Spec PyProof.Rows
theorem lR:∀ {vs:List Value}{ns:List Int},IntsAre vs ns->Vals (ns.map V.int) vs
 | _,_,.nil=>.nil
 | _,_,.cons n t h=>.cons ⟨t,rfl⟩ (lR h)
def jD (s:Stmt):Arguments:=match s with
 | .FunctionDef _ a _ _ _ _ _ _ _ _=>a
 | _=>{ posonlyargs:=[],args:=[],vararg:=none,kwonlyargs:=[],kw_defaults:=[],kwarg:=none,defaults:=[] }
def aj (s:Stmt):List Stmt:=match s with
 | .FunctionDef _ _ b _ _ _ _ _ _ _=>b
 | _=>[]
def aq (s:Stmt):Scope:=match s with
 | .FunctionDef _ _ _ _ _ _ sc _ _ _=>sc
 | _=>{ kind:=.function,names:=[],isGenerator:=false,isCoroutine:=false }
abbrev bZ:MJ:=λ_ _ _ _ _ _=>False
abbrev E0:XK:=λ_ _ _=>False
theorem av {X:Cx}:Passes bZ X E0:=λ_ _ _ _ _ _ _ h=>h.elim
structure aX (K:PySem.W.Frag) (x qual:Str) (st:Stmt) (f:Addr) (fd:FuncData):Prop where
 ex:∃ (oc:Value) (od:Option Addr) (kV doc pm:Value) (an:Option Addr) (bI ct:Value) (NC:Array (Option Value)),
  fd=xL x qual (jD st) (aj st) (aq st) .none kV doc pm an bI ct/\K.lookup f=some ⟨oc,od,.func fd,NC⟩/\PySem.W.codeIn K bI qual=true
 kp:zI K (.ref f)=true
section
variable {P:Program}{w:World}{K:PySem.W.Frag}{mg:Str->Option Value}{base:Heap}
theorem aX.ok {x qual:Str}{st:Stmt}{f:Addr}{fd:FuncData}{N ps:List Str}{k:Nat}{sp:Sp}(F:aX K x qual st f fd)(S:aA N ps (aq st))(len:∀ vs H Q E,sp vs H Q E->vs.length=ps.length)
  (iB:∀ (bI:Value) (A:Around) (outer:List Env) (s:Shared) (H:Hp) (vs:List V) (Q:VK) (E:XK),c8 k (A.deeper (envOfC qual (aq st) s.heap.objs.size f bI))->sp vs H Q E ->
   ∃ t,mX (kB bZ P w K mg base N qual (aq st) f bI A outer s H E).Lh (aj st) t/\t { nx:=λ_ H'=>Q .bD H',rt:=Q } (start N vs) H):aO P w K mg base bZ (k + 1) f fd ps sp:=by
 obtain ⟨oc,od,kV,doc,pm,an,bI,ct,NC,rfl,lk,p5⟩:=F.ex;refine OO lk p5 S len λA outer s H vs Q E hr MP=>?_;obtain ⟨t,h,q⟩:=iB bI A outer s H vs Q E hr MP;exact ⟨t,h.Lh,q⟩
theorem aX.binds {x qual:Str}{st:Stmt}{f:Addr}{fd:FuncData}{ps:List Str}(F:aX K x qual st f fd)
  (h:∀ (kV doc pm:Value) (an:Option Addr) (bI ct:Value) (us:List Value),us.length=ps.length->bindArgs (xL x qual (jD st) (aj st) (aq st) .none kV doc pm an bI ct) ⟨us,[]⟩=pure (ps.zip us)):Binds K fd ps []:=by
 obtain ⟨oc,od,kV,doc,pm,an,bI,ct,NC,rfl,lk,p5⟩:=F.ex;exact .all (h kV doc pm an bI ct)
theorem fun_mk {x qual:Str}{st:Stmt}{f:Addr}{oc:Value}{od an:Option Addr}{NC:Array (Option Value)}{kV doc pm bI ct:Value}(l:K.lookup f=some ⟨oc,od,.func (xL x qual (jD st) (aj st) (aq st) .none kV doc pm an bI ct),NC⟩)
  (c:PySem.W.codeIn K bI qual=true) (k:zI K (.ref f)=true):aX K x qual st f (xL x qual (jD st) (aj st) (aq st) .none kV doc pm an bI ct):=⟨⟨oc,od,kV,doc,pm,an,bI,ct,NC,rfl,l,c⟩,k⟩
end
section
variable {X:Cx}
theorem pv (i:Nat){x:Str}{pos:Pos}(hN:X.N[i]?=some x:=by rfl)(hv:O3 X.env.scope x=true:=by rfl)(hd:(x == ("__debug__" : Str))=false:=by decide)
  (p5:(x == ("__classdict__" : Str))=false:=by decide):PE X (.Name x pos) (qY i):=PB hN (M0 hv) hd p5
end
theorem WQ {A B:Prop}(h:B):if false=true then A else B:=by rw [if_neg zM];exact h
theorem Sn {c A B:Prop}[Decidable c](hc:c)(h:B):if (!decide c)=true then A else B:=by rw [decide_eq_true hc];exact WQ h
def au (H H':Hp):Prop:=∀ b o,H b=some o->H' b=some o
theorem au.refl (H:Hp):au H H:=λ_ _ h=>h
theorem au.trans {H H1 H2:Hp}(a:au H H1)(b:au H1 H2):au H H2:=λc o h=>b c o (a c o h)
theorem au.free {H H':Hp}(e:au H H'){l:Addr}(h:H' l=Option.none):H l=Option.none:=by
 cases q:H l with
 | none=>rfl
 | some o=>
  rw [e l o q] at h;cases h
theorem au.seq {K:PySem.W.Frag}{H H':Hp}{a:Addr}{xs:List V}(e:au H H')(h:aG K H a xs):aG K H' a xs:=by
 rcases h with (h | ⟨o,h⟩) | h
 ·exact .inl (.inl (e _ _ h))
 ·exact .inl (.inr ⟨o,e _ _ h⟩)
 ·exact .inr h
theorem vh {prog:Program}{w:World}{A:Around}{R:Result->Shared->Prop}{s:Shared}{elt target iter:Expr}{ifs:List Expr}{scope:Scope}{pos:Pos}{it acc:Value}{env:Env}(I:Nat->Shared->Prop)
  (turn:∀ n s,I n s->wpAny (model prog w) A (pyNext it) (λr aN=>match r with
   | none=>R (.ok .next) aN
   | some v=>wpAny (model prog w) A (letOwnedTupleGo target it v) (λ_ Ol=>wpAny (model prog w) A (assign target env v) (λ_ jN=>
     wpAny (model prog w) A (forIn ifs true λc r=>if r=true then do let ok <- isTrue c env (eval c env);pure (ForInStep.yield ok) else pure (ForInStep.yield r)) (λok uL=>
      if ok=true then wpAny (model prog w) A (eval elt env) (λx RN=>
       wpAny (model prog w) A (call (.builtin "list.append") [acc,x]) (λ_ RM=>∃ m,m < n/\I m RM) (λ_ _=>False) RN) (λ_ _=>False) uL
      else ∃ m,m < n/\I m uL) (λ_ _=>False) jN) (λ_ _=>False) Ol) (λ_ _=>False) aN) (λ_ _=>False) s)
  (n:Nat) (h:I n s) :
  codeAny (model prog w) A (.compLoop (.ListComp elt [⟨target,iter,ifs,0⟩] scope pos) 0 it acc env) R s:=by
 refine codeAny_loop rfl I (λn s hI=>?_) n h;show wpAny _ A ((compTurn (.ListComp elt [⟨target,iter,ifs,0⟩] scope pos) 0 it acc env).onRaise (λx=>do noteFrame x env;theTreesLotGoes x)) _ _ s;refine wpAny_noted ?_;rw [compTurn_list];refine wpAny_bind (wpAny_standAt (wpAny_bind (wpAny_mono (turn n s hI) (λr aN kc=>?_) λ_ _ h'=>h'.elim)));cases r with
 | none=>exact wpAny_pure kc
 | some v=>
  refine wpAny_bind (wpAny_mono kc (λ_ Ol Sx=>?_) λ_ _ h'=>h'.elim);refine wpAny_bind (wpAny_mono Sx (λ_ jN LC=>wpAny_bind (wpAny_mono LC (λok uL NU=>?_) λ_ _ h'=>h'.elim)) λ_ _ h'=>h'.elim);cases ok with
  | false=>exact wpAny_pure ⟨rfl,NU⟩
  | true=>
   exact wpAny_bind (wpAny_bind (wpAny_mono NU (λx RN WU=>wpAny_bind (wpAny_mono WU (λ_ RM WT=>wpAny_pure (wpAny_pure ⟨rfl,WT⟩)) λ_ _ h'=>h'.elim)) λ_ _ h'=>h'.elim))
def dN (names:List (Str×NameKind))(env:Env)(cs:List (Str×Addr)):List (Str×Addr):=
 names.foldl (λcs p=>if p.2=.free then (match env.cells.lookup p.1 with | some c=>(p.1,c)::cs | none=>cs) else cs) cs
theorem iF {env:Env}:∀ (names:List (Str×NameKind)) (cs:List (Str×Addr)),(∀ y∈names,y.2=.free->∃ c,env.cells.lookup y.1=some c) ->
  (forIn names cs λx r=>(if (x.2 == NameKind.free)=true then do let a <- cellOf env x.1;pure (ForInStep.yield ((x.1,a)::r)) else pure (ForInStep.yield r):Sem _))=pure (dN names env cs)
 | [],cs,_=>by simp [dN]
 | (n,k)::r,cs,h=>by
  have ih:=λcs=>iF r cs λy hy=>h y (zw _ hy);simp only [List.forIn_cons];by_cases hk:k=.free
  ·subst hk;obtain ⟨c,e⟩:=h (n,.free) yN rfl;have e':env.cells.lookup n=some c:=e;have ec:cellOf env n=pure c:=by unfold cellOf;rw [e']
   simp only [beq_self_eq_true,if_true,ec,pure_bind];rw [ih];simp [dN,e']
  ·have hb:(k == NameKind.free)=false:=by simpa using hk
   simp only [hb,zg,if_false,pure_bind];rw [ih];simp [dN,hk]
theorem gh {scope:Scope}{env:Env}(h:∀ y∈scope.names,y.2=.free->∃ c,env.cells.lookup y.1=some c):closureFor scope env=pure (dN scope.names env []):=by unfold closureFor;have:=iF scope.names [] h;simp only [bind_pure];exact this
theorem qe {env:Env}:∀ (names:List (Str×NameKind)) (cs:List (Str×Addr)) (x:Str) (c:Addr),(x,c)∈dN names env cs->(x,c)∈cs\/env.cells.lookup x=some c
 | [],cs,x,c,h=>.inl h
 | (n,k)::r,cs,x,c,h=>by
  have h':(x,c)∈dN r env (if k=.free then (match env.cells.lookup n with | some c=>(n,c)::cs | none=>cs) else cs):=h;rcases qe r _ x c h' with q | q
  ·split at q
   ·cases e:env.cells.lookup n with
    | none=>rw [e] at q;exact .inl q
    | some d=>
     rw [e] at q;rcases zK.mp q with z | z
     ·cases z;exact .inr e
     ·exact .inl z
   ·exact .inl q
  ·exact .inr q
theorem mR {env:Env}:∀ (names:List (Str×NameKind)) (cs:List (Str×Addr)) (x:Str),(∃ c,(x,c)∈cs)->∃ c,(x,c)∈dN names env cs
 | [],cs,x,h=>h
 | (n,k)::r,cs,x,⟨c,h⟩=>by
  refine mR r _ x ?_;dsimp only;split
  ·split
   ·exact ⟨c,zw _ h⟩
   ·exact ⟨c,h⟩
  ·exact ⟨c,h⟩
theorem qg {env:Env}:∀ (names:List (Str×NameKind)) (cs:List (Str×Addr)) (x:Str),(x,NameKind.free)∈names->(∃ c,env.cells.lookup x=some c)->∃ c,(x,c)∈dN names env cs
 | [],_,_,h,_=>by simp at h
 | (n,k)::r,cs,x,h,⟨c,e⟩=>by
  rcases zK.mp h with z | z
  ·have e1:x=n:=congrArg Prod.fst z;have e2:NameKind.free=k:=congrArg Prod.snd z;subst e1 e2;refine mR r _ x ⟨c,?_⟩;dsimp only;rw [if_pos rfl,e];exact yN
  ·exact qg r _ x z ⟨c,e⟩
theorem gg {β:Type}:∀ (l:List (Str×β)) (x:Str) (c:β),(x,c)∈l->∃ d,l.lookup x=some d
 | (n,d)::r,x,c,h=>by
  cases hx:x == n with
  | true=>exact ⟨d,by simp [ya,hx]⟩
  | false=>
   simp only [ya,hx];rcases zK.mp h with z | z
   ·cases z;simp at hx
   ·exact gg r x c z
theorem wD {names:List (Str×NameKind)}{env:Env}{x:Str}{c:Addr}(h:(dN names env []).lookup x=some c):env.cells.lookup x=some c:=by
 rcases qe names [] x c (zp h) with q | q
 ·simp at q
 ·exact q
theorem fW {names:List (Str×NameKind)}{env:Env}{x:Str}{c:Addr}(h:(x,NameKind.free)∈names)(e:env.cells.lookup x=some c):(dN names env []).lookup x=some c:=by obtain ⟨d,hd⟩:=qg names [] x h ⟨c,e⟩;obtain ⟨d',N4⟩:=gg _ _ _ hd;have:=wD N4;rw [e] at this;cases this;exact N4
theorem cM {env:Env}:∀ {names:List (Str×NameKind)}{x:Str},names.lookup x=some .free ->
  (names.map λ(n,k)=>if (k == NameKind.free && env.scope.kind == .function && env.kindOf n == some .cell) then (n,NameKind.cell) else (n,k)).lookup x=some .cell \/
  (names.map λ(n,k)=>if (k == NameKind.free && env.scope.kind == .function && env.kindOf n == some .cell) then (n,NameKind.cell) else (n,k)).lookup x=some .free
 | [],_,h=>by simp at h
 | (n,k)::r,x,h=>by
  have ih:=@cM env r x;show List.lookup x ((if (k == NameKind.free && env.scope.kind == .function && env.kindOf n == some .cell)=true then (n,NameKind.cell) else (n,k))::_)=_\/List.lookup x ((if (k == NameKind.free && env.scope.kind == .function && env.kindOf n == some .cell)=true then (n,NameKind.cell) else (n,k))::_)=_;by_cases hc:(k == NameKind.free && env.scope.kind == .function && env.kindOf n == some .cell)=true
  ·rw [if_pos hc];cases hx:x == n with
   | true=>left;simp [ya,hx]
   | false=>
    simp only [ya,hx] at h ⊢;exact ih h
  ·rw [if_neg hc];cases hx:x == n with
   | true=>
    simp only [ya,hx] at h;cases h;right;simp [ya,hx]
   | false=>
    simp only [ya,hx] at h ⊢;exact ih h
structure aM (own:List Str) (caps:List Nat) (N:List Str) (sc scope:Scope):Prop where
 kind:scope.kind=.function
 iV:∀ y∈scope.names,y.2≠.cell
 loc:∀ y∈scope.names,y.2=.local->scope.names.lookup y.1=some .local
 fr:∀ y∈scope.names,y.2=.free->sc.names.lookup y.1=some .cell\/sc.names.lookup y.1=some .free
 Yh:∀ i∈caps,i < N.length/\scope.names.lookup ((N[i]?).getD Str.empty)=some .free
def kC (X:Cx)(own:List Str)(caps:List Nat)(scope:Scope)(s:Shared)(H:Hp)(fp:List Addr)(C:Addr):Cx:=
 { X with N:=own++caps.map (λi=>(X.N[i]?).getD Str.empty),cO:=s,vR:=H,env:=compEnvC scope (dN scope.names X.env []) C X.env,outer:=X.stack,ex:=fp,fn:=λ_=>false,pn:=[],xe:=λ_ _=>False }
def gZ (n:Nat)(caps:List Nat)(σ:St):St:=List.replicate n none++caps.map λi=>(σ[i]?).join
section
variable {X:Cx}{af:List (Addr×Obj)}{σ:St}{H:Hp}{s:Shared}
theorem iD {scope:Scope}{env:Env}(nc:∀ y∈scope.names,y.2≠.cell){x:Str}{k:NameKind}(hk:k=.cell\/k=.free)(h:(relabel scope env).names.lookup x=some k):(x,NameKind.free)∈scope.names:=by
 have hm:=zp h;obtain ⟨⟨n,k0⟩,hy,e⟩:=zQ.mp hm;dsimp only at e;split at e
 ·rename_i hc;simp only [zb,beq_iff_eq] at hc;have e1:n=x:=congrArg Prod.fst e;subst e1;rw [hc.1.1] at hy;exact hy
 ·cases e;rcases hk with z | z
  ·subst z;exact absurd rfl (nc _ hy)
  ·subst z;exact hy
theorem LB {own:List Str}{caps:List Nat}{scope:Scope}{fp:List Addr}{D C:Addr}{o:Obj}{h1:Heap}{tk:Nat}(I:Inv X af σ H s)(S:aM own caps X.N X.env.scope scope)
  (f:∀ b∈fp,jf X af H b) (fl:∀ b∈fp,b < s.heap.objs.size) (hD:s.heap.objs.size<=D) (hC:s.heap.objs.size<=C) (S5:D≠C) (keep:∀ b o,s.heap.get? b=some o->h1.get? b=some o)
  (N1:h1.Ns C λ_=>none) (Qz:h1.get? D=some o) (ho:∀ v,o.data≠.cell v) :
  Inv (kC X own caps scope s H fp C) [(D,o)] (gZ own.length caps σ) H { s with heap:=h1,toks:=tk }:=by
 have sub:∀ b∈vY X.stack,b < s.heap.objs.size:=λb hb=>by
  rcases zK.mp (I.jO b hb) with e | hb
  ·rw [e];exact I.lt
  ·by_cases q:b < s.heap.objs.size
   ·exact q
   ·exact absurd hb (I.R7 (Nat.le_of_not_lt q))
 refine ⟨⟨I.ok.mod,S.kind,I.ok.glob,I.ok.blt,hC,λx y c h1 h2=>I.ok.inj x y c (wD h1) (wD h2),λx hx=>?_,λx c z _=>absurd (show false=true from z) zM,I.ok.hd,I.ok.frames,.inl rfl,
   λb hb=>⟨zW (zS (fl b hb) hC),λx c e=>(f b hb).2.2.2.2.1 x c (wD e)⟩,I.bs,zz I.ok.Mq I.sz,λb ob e hb=>?_,λb hb hs=>?_,I.stack,I.m9⟩,
  rfl,I.bare,Un.kept keep,⟨_,N1,λi x v e1 e2 e3=>?_⟩,λx c e=>?_,I.aY.fresh hC,λx c e=>I.fH x c (wD e),λp hp=>?_,I.aY.kept keep,?_⟩
 ·have hm:(x,NameKind.free)∈scope.names:=by
   rcases hx with hx | hx
   ·exact iD S.iV (.inl rfl) hx
   ·exact iD S.iV (.inr rfl) hx
  obtain ⟨c,hc⟩:=I.ok.has x (S.fr _ hm rfl);exact ⟨c,fW hm hc⟩
 ·rcases (f b hb).2.2.2.1 with z | z
  ·exact I.ok.Lk b ob e z
  ·exact absurd (zS (Heap.lt_size e) (zz I.ok.Mq z)) (yK _)
 ·rcases zK.mp (I.jO b hs) with e | e
  ·exact (f b hb).2.1 e
  ·exact (f b hb).2.2.1 e
 ·have uf:(List.replicate own.length (none:Option V)++caps.map λi=>(σ[i]?).join)[i]?=some (some v):=e2;have nV:(own++caps.map (λi=>(X.N[i]?).getD Str.empty))[i]?=some x:=e1;have hi:own.length<=i:=by
   by_cases q:i < own.length
   ·rw [zi (by simpa using q),List.getElem?_replicate,if_pos q] at uf;cases uf
   ·exact Nat.le_of_not_lt q
  rw [zY (by simpa using hi),yd,zD] at uf;rw [zY hi,zD] at nV;cases ek:caps[i - own.length]? with
  | none=>rw [ek] at nV;cases nV
  | some k=>
   rw [ek] at nV uf;have ex:(X.N[k]?).getD Str.empty=x:=Option.some.inj nV;have ev:(σ[k]?).join=some v:=Option.some.inj uf;have Yb:σ[k]?=some (some v):=by
    cases q:σ[k]? with
    | none=>rw [q] at ev;cases ev
    | some y=>rw [q] at ev;exact congrArg some ev
   obtain ⟨hl,hf⟩:=S.Yh k (zB ek);have eN:X.N[k]?=some x:=by
    rw [zF hl] at ex ⊢;exact congrArg some ex
   rw [ex] at hf;have hm:=zp hf;have SV:=S.fr _ hm rfl;obtain ⟨m,_,Qt⟩:=I.loc;obtain ⟨u,ru,lk⟩:=Qt k x v eN Yb (.inr SV);refine ⟨u,ru,.inr ⟨cM hf,?_⟩⟩;rcases lk with ⟨kl,_⟩ | ⟨_,c,hc,ob,NY,hd⟩
   ·have NN:X.env.scope.names.lookup x=some .local:=kl;rcases SV with z | z
    ·have z':X.env.scope.names.lookup x=some .cell:=z;rw [z'] at NN;cases NN
    ·have z':X.env.scope.names.lookup x=some .free:=z;rw [z'] at NN;cases NN
   ·exact ⟨c,fW hm hc,ob,keep c ob NY,hd⟩
 ·obtain ⟨v,ob,NY,hd⟩:=I.cell x c (wD e);exact ⟨v,ob,keep c ob NY,hd⟩
 ·have e:p=(D,o):=by simpa using (show p∈[]++[(D,o)] from hp)
  subst e;refine ⟨Qz,I.aY.fresh hD,S5,λz=>?_,ho⟩;exact absurd (zS (sub D z) hD) (yK _)
 ·show (gZ own.length caps σ).length=(own++caps.map (λi=>(X.N[i]?).getD Str.empty)).length;simp [gZ]
def Yo (X:Cx)(ifs:List Expr)(t:TT):Prop:=
 ∀ (af:List (Addr×Obj)) (s:Shared) (σ:St) (H:Hp) (Q:Bool->Hp->Prop),Inv X af σ H s->t σ H Q ->
  wpAny (model X.prog X.w) X.A (forIn ifs true λc r=>if r=true then do let ok <- isTrue c X.env (eval c X.env);pure (ForInStep.yield ok) else pure (ForInStep.yield r)) (TP X af σ Q) X.xe s
def Kv:TT:=λ_ H Q=>Q true H
theorem cA:Yo X [] Kv:=λ_ s σ H Q I h=>wpAny_tests_nil ⟨H,I,h⟩
theorem nk {c:Expr}{t:TT}(h:PT X c t):Yo X [c] t:=λaf s σ H Q I q=>wpAny_tests_one (h af s σ H Q I q)
def RK (n:Nat)(caps:List Nat)(wi:TI)(g:TG)(tc:TT)(te:TE):TE:=fun σ H Q=>wi σ H λJ H1=>∃ W:Nat->Nat->St->List V->Hp->Prop,(∃ m,W 0 m (gZ n caps σ) [] H1)/\∀ i m τ acc H,W i m τ acc H ->
 (J.stop i H/\acc.length<=sizeLine/\∀ p,H p=none->Q (.ref p) (upd H p (.lst acc))) \/
 (J.go i H/\acc.length < sizeLine/\∀ x H',J.qx i H x H'->g x τ H' fun cy H2=>tc cy H2 λb H3=>if b=true then te cy H3 λy H4=>∃ m',m' < m/\W (i + 1) m' cy (acc++[y]) H4 else ∃ m',m' < m/\W (i + 1) m' cy acc H3)
theorem fZ.RA {P:Program}{w:World}{H:Hp}{h:Heap}{a:Addr}{o:HO}(x:fZ P w H h)(hn:H a=none)(new:aW P w (upd H a o) h a o):fZ P w (upd H a o) h:=λb u e=>by
 by_cases hb:b=a
 ·subst hb;rw [xS] at e;cases e;exact new
 ·rw [xX hb] at e;exact (x b u e).fh (λc v _ q=>q) (λc q=>by rw [xX (xT q hn)];exact q) λc xs q=>by rw [xX (xT q hn)];exact q
theorem wu {own:List Str}{caps:List Nat}{elt tg iter:Expr}{ifs:List Expr}{scope:Scope}{pos:Pos}{wi:TI}{g:TG}{tc:TT}{te:TE}(hc:X.calm=true)(S:aM own caps X.N X.env.scope scope)(hi:PI X tg iter wi)
  (hg:∀ s H fp C,PG (kC X own caps scope s H fp C) tg g) (ht:∀ s H fp C,Yo (kC X own caps scope s H fp C) ifs tc) (he:∀ s H fp C,PE (kC X own caps scope s H fp C) elt te)
  (hs:∀ x,foldedSetIterable iter X.env x=pure x:=by intro _;rfl):PE X (.ListComp elt [⟨tg,iter,ifs,0⟩] scope pos) (RK own.length caps wi g tc te):=by
 intro af s σ H Q I h;rw [eval_ListComp];refine wpAny_comprehension_free (use:=none) (cl:=dN scope.names X.env []) rfl hs (gh λy hy e=>I.ok.has y.1 (S.fr y hy e)) S.kind S.loc
  (wpAny_mono (hi af s σ H _ I h) (λv s1 h1=>aZ h1 λWM s2 h2=>?_) λ_ _ e=>e)
 obtain ⟨it,fp,tn,J,H2,e,I2,T,T8,f2,W,⟨m0,w0⟩,turn⟩:=h2;subst e;refine wpAny_newObj_type (wpAny_newFunctionEnv S.iV (by intro y hy;simp at hy) (λkc su nJ=>?_) S.kind);dsimp only at su nJ ⊢;generalize XW:s2.heap.push { cls:=.type "list", dict:=none,data:=.seq ([]:List Value).toArray }=G at su nJ ⊢;have hG:G.objs.size=s2.heap.objs.size + 1:=by rw [<-XW,Heap.size_push]
 have S5:s2.heap.objs.size≠G.objs.size:=by rw [hG];exact zW (Nat.lt_succ_self _)
 have XY:s2.heap.objs.size<=G.objs.size:=by rw [hG];exact yC _
 have below:∀ b,b < s2.heap.objs.size->b≠G.objs.size:=λb hb=>by rw [hG];exact zW (yy hb)
 have old:∀ b o,s2.heap.get? b=some o->kc.get? b=some o:=λb o e=>nJ.extBut b o (below b (Heap.lt_size e)) (Heap.get?_push_of_some _ (XW ▸ Heap.get?_push_of_some _ e));have Qz:kc.get? s2.heap.objs.size=some { cls:=.type "list", dict:=none,data:=.seq ([]:List Value).toArray }:=nJ.extBut _ _ S5 (Heap.get?_push_of_some _ (XW ▸ Heap.get?_push_size _ rfl));have fl:∀ b∈fp,b < s2.heap.objs.size:=λb hb=>let ⟨o,e,_⟩:=T.obj _ _ T8 b hb;Heap.lt_size e;have NZ:kc.Ns G.objs.size λ_=>none:=su;have I4:=LB (tk:=s2.toks + ([]:List (Str×Value)).length) I2 S f2 fl (zE _) XY S5 old NZ Qz (λv z=>nomatch z);have We:tn 0 kc:=T.keep _ _ _ T8 λb _ o e=>old b o e;generalize hs4:({ s2 with heap:=kc,toks:=s2.toks + ([]:List (Str×Value)).length }:Shared)=s4 at I4 ⊢;have e4:s4.heap=kc:=by rw [<-hs4]
 rw [<-e4] at We
 -- Ra loop
 have loop:codeAny (model X.prog X.w) X.A (.compLoop (.ListComp elt [⟨tg,iter,ifs,0⟩] scope pos) 0 (.ref it) (.ref s2.heap.objs.size) (compEnvC scope (dN scope.names X.env []) G.objs.size X.env))
   (compPost (model X.prog X.w) X.A X.xe none (EP X af σ Q) (.ref s2.heap.objs.size) G.objs.size) s4:=by
  let Y:=kC X own caps scope s2 H2 fp G.objs.size
  have rq:∀ {H':Hp}{ay:List Value}{n:Nat},(∀ b∈fp,H' b=none)->∀ b∈fp,jf Y [(s2.heap.objs.size,({ cls:=.type "list", data:=.seq ay.toArray n }:Obj))] H' b:=λ{H' ay n} hn b hb=>by
   refine ⟨hn b hb,below b (fl b hb),λz=>?_,.inl hb,λx c e=>(f2 b hb).2.2.2.2.1 x c (wD e),λp hp=>?_⟩
   ·rcases zK.mp (I2.jO b z) with e | e
    ·exact (f2 b hb).2.1 e
    ·exact (f2 b hb).2.2.1 e
   ·have e:p=(s2.heap.objs.size,({ cls:=.type "list", data:=.seq ay.toArray n }:Obj)):=by simpa using (show p∈[]++[_] from hp)
    subst e;exact yZ (fl b hb)
  refine vh (λn s'=>∃ i τ acc ay k H',Inv Y [(s2.heap.objs.size,({ cls:=.type "list", data:=.seq ay.toArray k }:Obj))] τ H' s'/\tn i s'.heap/\(∀ b∈fp,H' b=none)/\Vals acc ay/\W i n τ acc H') ?_ m0
   ⟨0,_,[],[],0,H2,I4,We,λb hb=>(f2 b hb).1,.nil,w0⟩
  rintro n s5 ⟨i,τ,acc,ay,k,H5,I5,Rc,UO,Uc,w5⟩;rcases turn i n τ acc H5 w5 with ⟨stop,hz,q⟩ | ⟨go,hz,step⟩
  ·refine aZ (T.done Y rfl rfl rfl hc i _ s5 τ H5 (λ_ _=>False) I5 (rq UO) Rc stop) λr s6 ⟨hr,I6⟩=>?_;subst hr;obtain ⟨eD,nD,_,_,_⟩:=I6.pin _ (zJ _ (zP.mpr rfl));obtain ⟨m6,hm6,_⟩:=I6.loc;refine ⟨m6,hm6,λh' MQ=>?_⟩;have ZK:H5 G.objs.size=none:=I6.free;have eD':h'.get? s2.heap.objs.size=some { cls:=.type "list", data:=.seq ay.toArray k }:=MQ.extBut _ _ S5 eD;have Xj:fZ X.prog X.w H5 h':=λb u e=>(I6.aY b u e).fh (λc v hcv qv=>MQ.extBut c v (by
     rcases hcv with z | z
     ·subst z;exact xT e ZK
     ·exact xT z ZK) qv) (λ_ q=>q) λ_ _ q=>q
   refine ⟨.ref s2.heap.objs.size,_,?_,rfl,q _ nD⟩;have ub:=I6.base;refine I2.To (ch:=fp) (s':={ s6 with heap:=h' }) I6.os ⟨λb o e n' hb hx=>MQ.extBut b o (below b (Heap.lt_size e)) (ub.keep b o e n' hb hx),λb o e n' hb hx=>?_,λb o e n' hx=>?_,λb o e hx=>?_,λb xs e=>?_,λb o u e=>?_,λb ps e=>?_⟩
    (Xj.RA nD ⟨hz,ay,k,Uc,eD'⟩) I6.bare λb hb=>⟨(f2 b hb).2.2.2.1,(f2 b hb).2.1,(f2 b hb).2.2.2.2.1,(f2 b hb).2.2.2.2.2⟩
   ·obtain ⟨sl,e'⟩:=ub.slot b o e n' hb hx;exact ⟨sl,MQ.extBut b _ (below b (Heap.lt_size e)) e'⟩
   ·rw [xX (zW (Heap.lt_size e))];exact ub.free b o e n' hx
   ·obtain ⟨o',e'⟩:=ub.there b o e hx;exact ⟨o',MQ.extBut b _ (below b (Heap.lt_size e)) e'⟩
   ·have z:=ub.aQ b xs e;rw [xX (xT z nD)];exact z
   ·have z:=ub.lG b o u e;rw [xX (xT z nD)];exact z
   ·obtain ⟨more,z⟩:=ub.kY b ps e;exact ⟨more,by rw [xX (xT z nD)];exact z⟩
  ·refine aZ (T.item Y rfl rfl rfl hc i _ s5 τ H5 (λ_ _=>False) I5 (rq UO) Rc go) λr s6 ⟨u,hr,h6⟩=>?_;subst hr;refine aZ h6 λ_ s7 ⟨x,H7,I7,r7,y7,Wd,fr7⟩=>?_;have I7':=I7.pinned (rq fr7) (T.obj _ _ Wd);refine aZ (hg s2 H2 fp G.objs.size _ s7 τ H7 x u _ I7' r7 (step x H7 y7)) λ_ s8 ⟨Ru,H8,I8,q8⟩=>?_;refine aZ (ht s2 H2 fp G.objs.size _ s8 Ru H8 _ I8 q8) λok s9 ⟨H9,I9,q9⟩=>?_
   -- Ra sj state behind Ra turn
   have back:∀ {s':Shared}{Yx:St}{H':Hp},Inv Y ([(s2.heap.objs.size,({ cls:=.type "list", data:=.seq ay.toArray k }:Obj))]++jW fp s7.heap) Yx H' s'->(tn (i + 1) s'.heap/\∀ b∈fp,H' b=none):=λ{s' Yx H'} Ib=>
    ⟨T.keep _ _ _ Wd λb hb o e=>(Ib.pin (b,o) (zJ _ (zJ _ (dX hb e)))).1,λb hb=>by
     obtain ⟨o,e,d⟩:=T.obj _ _ Wd b hb;exact (Ib.pin (b,o) (zJ _ (zJ _ (dX hb e)))).2.1⟩
   cases ok with
   | false=>
    obtain ⟨m',vD,w'⟩:=q9;obtain ⟨sb,fb⟩:=back I9;exact ⟨m',vD,i + 1,Ru,acc,ay,k,H9,I9.gX,sb,fb,Uc,w'⟩
   | true=>
    refine aZ (he s2 H2 fp G.objs.size _ s9 Ru H9 _ I9 q9) λy jx ⟨yv,vS,Yt,r10,q10⟩=>?_;obtain ⟨m',vD,w'⟩:=q10;obtain ⟨sb,fb⟩:=back Yt;obtain ⟨eD,nD,Ur,nfD,_⟩:=Yt.pin (s2.heap.objs.size,_) (zJ _ (zX _ (zP.mpr rfl)));have hl:acc.length=ay.length:=Uc.length;refine call_meets F.slot_list_append ⟨_,eD,rfl⟩ F.entry_list_append (F.args_list_append_2 _ _) (PySem.list_append s2.heap.objs.size ay.toArray k y (by rw [zO];omega)) ⟨eD,?_⟩;have q:=PySem.IsL.update eD (λa:Array Value=>a.push y);have Iu:Inv Y [] Ru vS jx:=Yt.cB λp hp=>nomatch hp;have It:=Iu.turned (t':=jx.toks) (it:=s2.heap.objs.size) (h':=jx.heap.update s2.heap.objs.size (Obj.mapSeq (λa:Array Value=>a.push y))) (λb o hb e=>(Heap.get?_update_other jx.heap _ (Ne.symm hb)).trans e) nD Ur (.inr (zE _))
     (λx c e z=>by
      obtain ⟨v,ob,NY,_⟩:=I2.cell x c (wD e);exact absurd (Heap.lt_size NY) (by rw [z];exact yK _)) (λp hp=>nomatch hp)
    have It':=It.cB (eO:=[(s2.heap.objs.size,({ cls:=.type "list", data:=.seq (ay++[y]).toArray (k + 1) }:Obj))]) λp hp=>by
     have e:p=_:=zP.mp hp;subst e;exact ⟨by simpa using q,nD,Ur,nfD,λv z=>nomatch z⟩
    refine ⟨m',vD,i + 1,Ru,acc++[yv],ay++[y],_,vS,It',T.keep _ _ _ sb λb hb o e=>(Heap.get?_update_other jx.heap _ (yZ (fl b hb))).trans e,fb,Uc.append (.cons r10 .nil),w'⟩
 exact codeAny_compStart_list loop (T.self _ 0 s4 _ _ We loop)
end
open AutoSeq1 (wpAny_loadPart')
section
variable {prog:Program}{w:World}{A:Around}{E:Value->Shared->Prop}{s:Shared}
theorem PR {it t:Addr}{i:Nat}{items}{x:Value}{Q:Value->Shared->Prop}(hit:s.heap.IsTupleIter it t i)(ht:s.heap.IsTuple t items)(hx:items[i]?=some x)
  (hQ:∀ h',h'.IsTupleIter it t (i + 1)->Heap.SameBut it s.heap h'->Q x { s with heap:=h' }):wpAny (model prog w) A (Builtin.SmallTypes.nextOf (.ref it)) Q E s:=by
 have ty:=hit.typeIs (s:=s);obtain ⟨o,ho,hc,hd⟩:=hit;obtain ⟨ot,Xi,_,n,XI⟩:=ht;have new:=hQ _ ⟨_,Heap.get?_update_self (Obj.mapFields (·.set! 1 (rawInt (i + 1)))) ho (Obj.isFreed_of_fields (Obj.data_mapFields hd _)),(Obj.cls_mapFields ..).trans hc,by rw [Obj.data_mapFields hd];simp [rawInt]⟩ (Heap.SameBut.update ..);unfold Builtin.SmallTypes.nextOf;refine wpAny_bind (wpAny_callSpecial?_slot ty F.slot_tuple_iterator_next (wpAny_call_entry F.slot_tuple_iterator_next ty F.entry_tuple_iterator_next ?_ (F.args_tuple_iterator_next_1 _)));unfold Builtin.«tuple_iterator.__next__»;wp_walk using wpAny_field ho hd (x:=.ref t) rfl,wpAny_field ho hd (x:=.int i 0) rfl,wpAny_seqItems Xi XI;simp only [zm,hx];wp_walk using wpAny_setField ho hd (by simp);exact ⟨x,rfl,wpAny_pure new⟩
theorem tU {it t:Addr}{i:Nat}{items}{Q:Value->Shared->Prop}(hh:A.handled=none)(hit:s.heap.IsTupleIter it t i)(ht:s.heap.IsTuple t items)(hx:items[i]?=none)
  (hE:∀ h' e,Heap.ExtBut it s.heap h'->(∃ o,h'.get? e=some o/\o.cls=.type "StopIteration")->E (.ref e) { s with heap:=h' }):wpAny (model prog w) A (Builtin.SmallTypes.nextOf (.ref it)) Q E s:=by
 have ty:=hit.typeIs (s:=s);obtain ⟨o,ho,hc,hd⟩:=hit;obtain ⟨ot,Xi,_,n,XI⟩:=ht;have hh1:A.in1.handled=none:=hh;unfold Builtin.SmallTypes.nextOf;refine wpAny_bind (wpAny_callSpecial?_slot ty F.slot_tuple_iterator_next (wpAny_call_entry F.slot_tuple_iterator_next ty F.entry_tuple_iterator_next ?_ (F.args_tuple_iterator_next_1 _)));unfold Builtin.«tuple_iterator.__next__»;wp_walk using wpAny_field ho hd (x:=.ref t) rfl,wpAny_field ho hd (x:=.int i 0) rfl,wpAny_seqItems Xi XI;simp only [zm,hx];wp_walk using wpAny_setField ho hd (by simp);simp only [raiseNew];refine wpAny_bind (wpAny_handled ?_);rw [hh1];exact wpAny_bind (wpAny_pure (wpAny_throw (hE _ _ (((Heap.SameBut.update ..).extBut.push _).push _) ⟨_,Heap.get?_push_size _ rfl,rfl⟩)))
end
theorem QL {prog:Program}{w:World}{A:Around}(hh:A.handled=none)(it t:Addr)(qL:t≠it)(items:Array Value) :
  Draws prog w A it [it,t] items.size (λi v=>items[i]?=some v) (λi h=>h.IsTupleIter it t i/\h.IsTuple t items) where
 live:=λ_ _ st=>let ⟨⟨o,ho,_⟩,_⟩:=st;⟨o,ho⟩
 frame:=λ_ _ _ st hk=>let ⟨⟨o,ho,r⟩,o',pX,r'⟩:=st;⟨⟨o,hk it (by simp) o ho,r⟩,o',hk t (by simp) o' pX,r'⟩
 item:=λi s Q E hi st hQ=>PR st.1 st.2 (Array.getElem?_eq_getElem hi) λh' a b=>hQ _ h' s.toks (Array.getElem?_eq_getElem hi) ⟨a,st.2.extBut b.extBut qL⟩ b
 done:=λs Q E st hE=>tU hh st.1 st.2 (Array.getElem?_eq_none (zE _)) hE
theorem QM {prog:Program}{w:World}{A:Around}(hh:A.handled=none)(it t:Addr)(items:Array Value) :
  Draws prog w A it [it,t] 0 (λ_ _=>False) (λ_ h=>∃ j,h.IsTupleIter it t j/\h.IsTuple t items/\items[j]?=none) where
 live:=λ_ _ st=>let ⟨_,⟨o,ho,_⟩,_⟩:=st;⟨o,ho⟩
 frame:=λ_ _ _ st hk=>let ⟨j,⟨o,ho,r⟩,⟨o',pX,r'⟩,z⟩:=st;⟨j,⟨o,hk it (by simp) o ho,r⟩,⟨o',hk t (by simp) o' pX,r'⟩,z⟩
 item:=λi s Q E hi _ _=>absurd hi (zd _)
 done:=λs Q E st hE=>let ⟨_,a,b,c⟩:=st;tU hh a b c hE
section
variable {prog:Program}{w:World}{A:Around}{E:Value->Shared->Prop}{s:Shared}
theorem vJ (l:Addr)(items:Array Value)(o:Obj) :
  Meets (Builtin.«enumerate.__new__» ⟨[.type "enumerate", .ref l],[]⟩) (λ_ R s=>(s.heap.get? l=some o/\s.heap.IsTuple l items) /\
   R (.ok (.ret (.ref (s.heap.push { cls:=.type "tuple_iterator", data:=.fields #[.ref l,.int 0 0] }).objs.size)))
    { s with heap:=(s.heap.push { cls:=.type "tuple_iterator", data:=.fields #[.ref l,.int 0 0] }).push { cls:=.type "enumerate", data:=.fields #[.none,.bool false,.ref s.heap.objs.size,rawInt 0,.none,.none] } }):=
 .of_wp λprog w A R s ⟨⟨hl,hL⟩,h⟩=>by
  obtain ⟨hp,g,d,tk,os⟩:=s;have abt:=sub_enumerate;wp_walk using wpAny_loadPart' hl;refine wpAny_stack_any λst=>wpAny_pure ?_;split
  ·rename_i c _ _ _ _ _;cases (c == Value.type "enumerate") <;> (wp_walk using wpAny_loadPart' hl,wpAny_pyIter_tuple hL) <;> exact ⟨_,rfl,h⟩
  ·wp_walk using wpAny_loadPart' hl,wpAny_pyIter_tuple hL;exact ⟨_,rfl,h⟩
theorem sR {l:Addr}{items:Array Value}{Q:Value->Shared->Prop}(hL:s.heap.IsTuple l items)
  (h:∀ h',IsEnum h' (s.heap.objs.size + 1) s.heap.objs.size 0 .none->h'.IsTupleIter s.heap.objs.size l 0 ->
   (∀ b o,s.heap.get? b=some o->h'.get? b=some o)->Q (.ref (s.heap.objs.size + 1)) { s with heap:=h' }) :
  wpAny (model prog w) A (call (.type "enumerate") [.ref l]) Q E s:=by
 obtain ⟨o,hl,_⟩:=id hL;refine callType_new F.called_enumerate (by decide) (F.typeCall_enumerate_1 _) (F.newCall_enumerate_1 _) (λobj=>F.args_object_init_2 obj _) F.entry_enumerate_new (vJ l items o) ⟨⟨hl,hL⟩,?_⟩;generalize hG:s.heap.push { cls:=.type "tuple_iterator", data:=.fields #[.ref l,.int 0 0] }=G;have hz:G.objs.size=s.heap.objs.size + 1:=by rw [<-hG,Heap.size_push]
 have hi:G.get? s.heap.objs.size=some { cls:=.type "tuple_iterator", data:=.fields #[.ref l,.int 0 0] }:=by rw [<-hG];exact Heap.get?_push_size _ rfl
 have he:=Heap.get?_push_size G (o:={ cls:=.type "enumerate", data:=.fields #[.none,.bool false,.ref s.heap.objs.size,rawInt 0,.none,.none] }) rfl;rw [hz] at he;show _/\_;rw [hz];exact ⟨⟨_,he,rfl⟩,h _ he ⟨_,Heap.get?_push_of_some _ hi,rfl,rfl⟩ λb o x=>Heap.get?_push_of_some _ (by rw [<-hG];exact Heap.get?_push_of_some _ x)⟩
end
def MG (K:PySem.W.Frag)(a:Addr):It:=
 ⟨λi H=>∃ xs x,bq K H a xs/\xs[i]?=some x,λi H y H'=>∃ p x,H p=none/\y=.ref p/\H'=upd H p (.tup [.int i,x])/\∀ xs,bq K H a xs->xs[i]?=some x,λi H=>∃ xs,bq K H a xs/\xs.length<=i⟩
theorem qU {P:Program}{w:World}{K:PySem.W.Frag}{es:List Expr}{k:Nat}{pos:Pos}(a e it:Addr)(qL:e≠it) :
  Turn P w K (.Tuple es k pos) (MG K a) [e,it] e (λi h=>(∃ old,IsEnum h e it i old)/\h.IsTupleIter it a i) where
 mem:=by simp
 obj:=λi h st b hb=>by
  obtain ⟨⟨old,he⟩,o,hi,c,d⟩:=st;rcases zK.mp hb with z | z
  ·subst z;exact ⟨_,he,λv q=>nomatch q⟩
  ·have z':b=it:=by simpa using z
   subst z';exact ⟨o,hi,λv q=>by rw [d] at q;cases q⟩
 keep:=λi h h' st q=>by
  obtain ⟨⟨old,he⟩,o,hi,r⟩:=st;exact ⟨⟨old,q e (by simp) _ he⟩,o,q it (by simp) o hi,r⟩
 item:=by
  intro X hP hw hK hc i af s σ H E I hf st hg;subst hP hw hK;obtain ⟨xs,x,hq,hx⟩:=hg;obtain ⟨ay,rv,p,hz⟩:=I.tuple hq;obtain ⟨u,hu,ru⟩:=rv.get hx;obtain ⟨⟨old,he⟩,hi⟩:=st;obtain ⟨e0,e1,e2,e3,e4,e5⟩:=hf e (by simp);obtain ⟨f0,f1,f2,f3,f4,f5⟩:=hf it (by simp);have el:e < s.heap.objs.size:=Heap.lt_size he;have il:it < s.heap.objs.size:=let ⟨_,z,_⟩:=hi;Heap.lt_size z;have ht:s.heap.IsTuple a ay.toArray:=p;have hal:a < s.heap.objs.size:=let ⟨_,z,_⟩:=ht;Heap.lt_size z;have ZC:a≠it:=λz=>by
   obtain ⟨o1,z1,c1,_⟩:=ht;obtain ⟨o2,z2,c2,_⟩:=hi;rw [z,z2] at z1;cases z1;rw [c2] at c1;exact absurd (Value.type.inj c1) (by decide)
  have hae:e ∉ [it,a]:=λz=>by
   rcases zK.mp z with z | z
   ·exact qL z
   ·have z':e=a:=by simpa using z
    obtain ⟨o1,z1,c1,_⟩:=ht;rw [<-z',he] at z1;cases z1;exact absurd (Value.type.inj c1) (by decide)
  refine wpAny_pyNext_enum_itemD (QL (A:=X.A.in1) (I.ok.hd hc) it a ZC ay.toArray) he ⟨hi,ht⟩ (by simpa using (zC.mp hu).1) qL hae λu1 h1 tk hu1 ho Xf hT hsz hk=>?_;have eu:u=u1:=by
   have q:ay.toArray[i]?=some u:=by simpa using hu
   have SA:ay.toArray[i]?=some u1:=hu1;rw [q] at SA;exact Option.some.inj SA
  subst eu;have MS:=Xf.1;refine ⟨_,rfl,?_⟩;refine wpAny_letOwnedTupleGo_enum ho λh2 XH tZ=>?_;have iY:Heap.SameBut e h1 h2:=tZ;have cP:∀ b o,b≠e->b≠it->s.heap.get? b=some o->h2.get? b=some o:=λb o hb eW q=>iY.extBut b o hb (hk b o hb eW q);have OL:h2.get? s.heap.objs.size=some { cls:=.type "tuple", data:=.seq #[.int i tk,u] }:=iY.extBut _ _ (yZ el) hT;have nT:H s.heap.objs.size=none:=I.aY.fresh (zE _);refine ⟨.ref s.heap.objs.size,upd H s.heap.objs.size (.tup [.int i,x]),?_,rfl,⟨_,x,nT,rfl,rfl,λys hy=>by rw [I.lU hy hq];exact hx⟩,⟨⟨u,by simpa using XH⟩,?_⟩,λb hb=>?_⟩
  ·have nG:∀ b,b ∉ [e,it]->b≠e/\b≠it:=λb hb=>⟨λz=>hb (by simp [z]),λz=>hb (by simp [z])⟩;refine Inv.step (s:=s) (h':=h2) (g':=s.gens) (d':=s.drawn) (t':=tk + 1) (ch:=[e,it]) I (λb hb=>?_) (λb o _ _ hb q _=>cP b o (nG b hb).1 (nG b hb).2 q) (λb o _ _ hb q _=>⟨o.slots,cP b o (nG b hb).1 (nG b hb).2 q⟩)
    (λb o _ q n=>by rw [xX (zW (Heap.lt_size q))];exact n) (λb o hb q=>⟨o,cP b o (nG b hb).1 (nG b hb).2 q⟩)
    (λb ys q=>by rw [xX (xT q nT)];exact q) (λb o v q=>by rw [xX (xT q nT)];exact q) (λb ps q=>⟨#[],by rw [xX (xT q nT),q];simp⟩)
    (λm hm=>by
     obtain ⟨o,jB,ep,q,r⟩:=hm;exact ⟨o,jB,ep,cP _ o (Ne.symm e1) (Ne.symm f1) q,r⟩) (λb v q=>?_) I.bare
   ·rcases zK.mp hb with z | z
    ·subst z;exact ⟨e3,e1,e4,e5⟩
    ·have z':b=it:=by simpa using z
     subst z';exact ⟨f3,f1,f4,f5⟩
   ·by_cases hb:b=s.heap.objs.size
    ·subst hb;rw [xS] at q;cases q;exact ⟨⟨by show 2<=sizeLine;rw [sizeLine_eq];decide,λob e=>by rw [OL] at e;cases e;rfl⟩,[.int i tk,u],.cons ⟨_,rfl⟩ (.cons ru .nil),⟨_,OL,rfl,_,rfl⟩⟩
    ·rw [xX hb] at q;refine (I.aY b v q).fh (λc ob hc qc=>cP c ob ?_ ?_ qc) (λc qc=>by rw [xX (xT qc nT)];exact qc) λc ys qc=>by rw [xX (xT qc nT)];exact qc
     ·rcases hc with z | z
      ·subst z;exact xT q e0
      ·exact xT z e0
     ·rcases hc with z | z
      ·subst z;exact xT q f0
      ·exact xT z f0
  ·obtain ⟨o,q,r⟩:=MS;exact ⟨o,iY.extBut it o (Ne.symm qL) q,r⟩
  ·rcases zK.mp hb with z | z
   ·subst z;rw [xX (zW el)];exact e0
   ·have z':b=it:=by simpa using z
    subst z';rw [xX (zW il)];exact f0
 done:=by
  intro X hP hw hK hc i af s σ H E I hf st hg;subst hP hw hK;obtain ⟨xs,hq,hx⟩:=hg;obtain ⟨ay,rv,p,hz⟩:=I.tuple hq;obtain ⟨⟨old,he⟩,hi⟩:=st;obtain ⟨f0,f1,f2,f3,f4,f5⟩:=hf it (by simp);have hl:=rv.length;have ht:s.heap.IsTuple a ay.toArray:=p;have ZC:a≠it:=λz=>by
   obtain ⟨o1,z1,c1,_⟩:=ht;obtain ⟨o2,z2,c2,_⟩:=hi;rw [z,z2] at z1;cases z1;rw [c2] at c1;exact absurd (Value.type.inj c1) (by decide)
  exact wpAny_pyNext_enum_endD (QM (A:=X.A.in1) (I.ok.hd hc) it a ay.toArray) he ⟨i,hi,ht,by simp;omega⟩ λh' eb=>⟨rfl,I.turned (t':=s.toks) (λb o hb e=>eb b o hb e) f0 f1 f3 f4 f5⟩
 self:=λ_ _ _ _ _ st h=>let ⟨⟨_,he⟩,_⟩:=st;wpAny_pyIter_enum he h
def Qi (K:PySem.W.Frag)(ta:TA):TI:=fun σ H R=>ta σ H λvs H1=>∃ a,vs=[.ref a]/\(∃ xs,bq K H1 a xs)/\R (MG K a) H1
theorem pH {X:Cx}{a:Expr}{ta:TA}{p pos fu:Pos}{es:List Expr}{k:Nat}{K:PySem.W.Frag}(hK:X.K=K)(hg:Gl X "enumerate")(hm:X.mg "enumerate" = none)(ha:PA X [a] ta)(hs:starEach [a] X.env=[(false,eval a X.env)]:=by rfl) :
  PI X (.Tuple es k fu) (.Call (.Name "enumerate" p) [a] [] pos) (Qi K ta):=by
 subst hK;intro af s σ H R I h;refine Call_ (cj I hg hm boot_enumerate (zl (aZ (ha pos af s σ H _ I h) λus s1 ⟨vs,H1,I1,r1,q1⟩=>?_) hs rfl));obtain ⟨l,e,⟨xs,hq⟩,q⟩:=q1;subst e;cases r1 with
 | cons r rr=>
  cases rr;cases r;obtain ⟨ay,rv,p,hz⟩:=I1.tuple hq;refine sR (show s1.heap.IsTuple l ay.toArray from p) λh' he hi hk=>?_;refine wpAny_pyIter_enum he ?_;have I2:Inv X af σ H1 { s1 with heap:=h' }:=I1.kept (t':=s1.toks) hk;refine ⟨s1.heap.objs.size + 1,[s1.heap.objs.size + 1,s1.heap.objs.size],_,_,H1,rfl,I2,qU l _ _ (Nat.succ_ne_self _),⟨⟨_,he⟩,hi⟩,λb hb=>?_,q⟩;have eW:s1.heap.objs.size<=b:=by
   rcases zK.mp hb with z | z
   ·subst z;exact yC _
   ·have z':b=s1.heap.objs.size:=by simpa using z
    subst z';exact zE _
  exact I1.nO eW (I1.aY.fresh eW)
def MH (K:PySem.W.Frag)(a:Addr):It:=
 ⟨λi H=>∃ xs x,aG K H a xs/\xs[i]?=some x,λi H y H'=>∃ p x,H p=none/\y=.ref p/\H'=upd H p (.tup [.int i,x])/\∀ xs,aG K H a xs->xs[i]?=some x,λi H=>∃ xs,aG K H a xs/\xs.length<=i⟩
theorem qV {P:Program}{w:World}{K:PySem.W.Frag}{es:List Expr}{k:Nat}{pos:Pos}(a e it:Addr)(qL:e≠it) :
  Turn P w K (.Tuple es k pos) (MH K a) [e,it] e (λi h=>(∃ old,IsEnum h e it i old)/\h.IsListIter it a i) where
 mem:=by simp
 obj:=λi h st b hb=>by
  obtain ⟨⟨old,he⟩,o,hi,c,d⟩:=st;rcases zK.mp hb with z | z
  ·subst z;exact ⟨_,he,λv q=>nomatch q⟩
  ·have z':b=it:=by simpa using z
   subst z';exact ⟨o,hi,λv q=>by rw [d] at q;cases q⟩
 keep:=λi h h' st q=>by
  obtain ⟨⟨old,he⟩,o,hi,r⟩:=st;exact ⟨⟨old,q e (by simp) _ he⟩,o,q it (by simp) o hi,r⟩
 item:=by
  intro X hP hw hK hc i af s σ H E I hf st hg;subst hP hw hK;obtain ⟨xs,x,hq,hx⟩:=hg;obtain ⟨ay,rv,p,hz⟩:=I.list hq;obtain ⟨u,hu,ru⟩:=rv.get hx;obtain ⟨⟨old,he⟩,hi⟩:=st;obtain ⟨e0,e1,e2,e3,e4,e5⟩:=hf e (by simp);obtain ⟨f0,f1,f2,f3,f4,f5⟩:=hf it (by simp);have el:e < s.heap.objs.size:=Heap.lt_size he;have il:it < s.heap.objs.size:=let ⟨_,z,_⟩:=hi;Heap.lt_size z;refine wpAny_pyNext_enum_item he hi p.isList (x:=u) (by simpa using hu) qL λh1 ho MS hT hsz hk=>?_;obtain ⟨tk,UA⟩:∃ tk,tk=s.toks:=⟨_,rfl⟩;rw [<-UA] at hT ⊢;refine ⟨_,rfl,?_⟩;refine wpAny_letOwnedTupleGo_enum ho λh2 XH tZ=>?_;have iY:Heap.SameBut e h1 h2:=tZ;have cP:∀ b o,b≠e->b≠it->s.heap.get? b=some o->h2.get? b=some o:=λb o hb eW q=>iY.extBut b o hb (hk b o hb eW q);have OL:h2.get? s.heap.objs.size=some { cls:=.type "tuple", data:=.seq #[.int i tk,u] }:=iY.extBut _ _ (yZ el) hT;have nT:H s.heap.objs.size=none:=I.aY.fresh (zE _);refine ⟨.ref s.heap.objs.size,upd H s.heap.objs.size (.tup [.int i,x]),?_,rfl,⟨_,x,nT,rfl,rfl,λys hy=>by rw [I.iz hy hq];exact hx⟩,⟨⟨u,by simpa using XH⟩,?_⟩,λb hb=>?_⟩
  ·have nG:∀ b,b ∉ [e,it]->b≠e/\b≠it:=λb hb=>⟨λz=>hb (by simp [z]),λz=>hb (by simp [z])⟩;refine Inv.step (s:=s) (h':=h2) (g':=s.gens) (d':=s.drawn) (t':=tk + 1) (ch:=[e,it]) I (λb hb=>?_) (λb o _ _ hb q _=>cP b o (nG b hb).1 (nG b hb).2 q) (λb o _ _ hb q _=>⟨o.slots,cP b o (nG b hb).1 (nG b hb).2 q⟩)
    (λb o _ q n=>by rw [xX (zW (Heap.lt_size q))];exact n) (λb o hb q=>⟨o,cP b o (nG b hb).1 (nG b hb).2 q⟩)
    (λb ys q=>by rw [xX (xT q nT)];exact q) (λb o v q=>by rw [xX (xT q nT)];exact q) (λb ps q=>⟨#[],by rw [xX (xT q nT),q];simp⟩)
    (λm hm=>by
     obtain ⟨o,jB,ep,q,r⟩:=hm;exact ⟨o,jB,ep,cP _ o (Ne.symm e1) (Ne.symm f1) q,r⟩) (λb v q=>?_) I.bare
   ·rcases zK.mp hb with z | z
    ·subst z;exact ⟨e3,e1,e4,e5⟩
    ·have z':b=it:=by simpa using z
     subst z';exact ⟨f3,f1,f4,f5⟩
   ·by_cases hb:b=s.heap.objs.size
    ·subst hb;rw [xS] at q;cases q;exact ⟨⟨by show 2<=sizeLine;rw [sizeLine_eq];decide,λob e=>by rw [OL] at e;cases e;rfl⟩,[.int i tk,u],.cons ⟨_,rfl⟩ (.cons ru .nil),⟨_,OL,rfl,_,rfl⟩⟩
    ·rw [xX hb] at q;refine (I.aY b v q).fh (λc ob hc qc=>cP c ob ?_ ?_ qc) (λc qc=>by rw [xX (xT qc nT)];exact qc) λc ys qc=>by rw [xX (xT qc nT)];exact qc
     ·rcases hc with z | z
      ·subst z;exact xT q e0
      ·exact xT z e0
     ·rcases hc with z | z
      ·subst z;exact xT q f0
      ·exact xT z f0
  ·obtain ⟨o,q,r⟩:=MS;exact ⟨o,iY.extBut it o (Ne.symm qL) q,r⟩
  ·rcases zK.mp hb with z | z
   ·subst z;rw [xX (zW el)];exact e0
   ·have z':b=it:=by simpa using z
    subst z';rw [xX (zW il)];exact f0
 done:=by
  intro X hP hw hK hc i af s σ H E I hf st hg;subst hP hw hK;obtain ⟨xs,hq,hx⟩:=hg;obtain ⟨ay,rv,p,hz⟩:=I.list hq;obtain ⟨⟨old,he⟩,hi⟩:=st;obtain ⟨f0,f1,f2,f3,f4,f5⟩:=hf it (by simp);have hl:=rv.length;exact wpAny_pyNext_enum_end (I.ok.hd hc) he hi p.isList (by simp;omega) λh' eb=>⟨rfl,I.turned (t':=s.toks) (λb o hb e=>eb b o hb e) f0 f1 f3 f4 f5⟩
 self:=λ_ _ _ _ _ st h=>let ⟨⟨_,he⟩,_⟩:=st;wpAny_pyIter_enum he h
def Qj (K:PySem.W.Frag)(ta:TA):TI:=fun σ H R=>ta σ H λvs H1=>∃ a,vs=[.ref a]/\(∃ xs,aG K H1 a xs)/\R (MH K a) H1
theorem ir {X:Cx}{a:Expr}{ta:TA}{p pos fu:Pos}{es:List Expr}{k:Nat}{K:PySem.W.Frag}(hK:X.K=K)(hg:Gl X "enumerate")(hm:X.mg "enumerate" = none)(ha:PA X [a] ta)(hs:starEach [a] X.env=[(false,eval a X.env)]:=by rfl) :
  PI X (.Tuple es k fu) (.Call (.Name "enumerate" p) [a] [] pos) (Qj K ta):=by
 subst hK;intro af s σ H R I h;refine Call_ (cj I hg hm boot_enumerate (zl (aZ (ha pos af s σ H _ I h) λus s1 ⟨vs,H1,I1,r1,q1⟩=>?_) hs rfl));obtain ⟨l,e,⟨xs,hq⟩,q⟩:=q1;subst e;cases r1 with
 | cons r rr=>
  cases rr;cases r;obtain ⟨ay,rv,p,hz⟩:=I1.list hq;refine call_enumerate_list p.isList λh' he hi hsz hk=>?_;refine wpAny_pyIter_enum he ?_;have I2:Inv X af σ H1 { s1 with heap:=h' }:=I1.kept (t':=s1.toks) hk;refine ⟨s1.heap.objs.size + 1,[s1.heap.objs.size + 1,s1.heap.objs.size],_,_,H1,rfl,I2,qV l _ _ (Nat.succ_ne_self _),⟨⟨_,he⟩,hi⟩,λb hb=>?_,q⟩;have eW:s1.heap.objs.size<=b:=by
   rcases zK.mp hb with z | z
   ·subst z;exact yC _
   ·have z':b=s1.heap.objs.size:=by simpa using z
    subst z';exact zE _
  exact I1.nO eW (I1.aY.fresh eW)
def kX (H:Hp):V->Option String
 | .bD=>some "NoneType"
 | .bl _=>some "bool"
 | .int _=>some "int"
 | .str _=>some "str"
 | .ref a=>match H a with
  | some (.lst _)=>some "list"
  | some (.nN _ (.lst _))=>some "list"
  | some (.tup _)=>some "tuple"
  | some (.dK _)=>some "dict"
  | _=>none
 | _=>none
theorem Ks {K:PySem.W.Frag}{H:Hp}{x:V}{t:String}(h:kX H x=some t):jc K H x (.type t):=by
 cases x with
 | bD=>cases h;exact .bD
 | bl b=>cases h;exact .bl b
 | int i=>cases h;exact .int i
 | str x=>cases h;exact .str x
 | ref a=>
  unfold kX at h;dsimp only at h;split at h
  ·rename_i e;cases h;exact .lst e
  ·rename_i e;cases h;exact .nN e
  ·rename_i e;cases h;exact .tup e
  ·rename_i e;cases h;exact .dK e
  ·cases h
 | _=>cases h
theorem gY {H:Hp}{x:V}{t:String}(h:kX H x=some t):t = "NoneType" \/ t = "bool" \/ t = "int" \/ t = "str" \/ t = "list" \/ t = "tuple" \/ t = "dict" := by
 cases x with
 | ref a=>
  unfold kX at h;dsimp only at h;split at h <;> cases h <;> simp
 | _=>cases h <;> simp
def LA (t T:String):Bool:=t == T || (t == "bool" && T == "int")
theorem P7 {K:PySem.W.Frag}{t T:String}(h:t = "NoneType" \/ t = "bool" \/ t = "int" \/ t = "str" \/ t = "list" \/ t = "tuple" \/ t = "dict")(hT:T = "int" \/ T = "bool" \/ T = "list" \/ T = "tuple"):PySem.W.kitOne K (.type t) (.type T)=some (LA t T):=by rcases h with rfl | rfl | rfl | rfl | rfl | rfl | rfl <;> rcases hT with rfl | rfl | rfl | rfl <;> first | rfl | decide +kernel
section
variable {X:Cx}
theorem xy:dc X (.builtin "isinstance") (λxs H Q=>∃ x t T,xs=[x,.ty T]/\kX H x=some t/\(T = "int" \/ T = "bool" \/ T = "list" \/ T = "tuple")/\Q (.bl (LA t T)) H):=by intro af s σ H xs us Q I r h;obtain ⟨x,t,T,rfl,ht,hT,q⟩:=h;obtain ⟨u,w',rfl,r1,r2⟩:=vals2 r;cases r2;exact mC I r1 (Ks ht) (P7 (gY ht) hT) λtk=>⟨.bl _,H,I.tok tk,rfl,q⟩
theorem w8:fL X (binaryOp .FloorDiv) (rI (λ_ j=>0 < j/\j < 2 ^ 200) λi j=>.int (i / j)):=Rh λi j _ _ _ _ _ hc q=>by
 have e:i.fdiv j=i / j:=Int.fdiv_eq_ediv_of_nonneg _ (by omega);rw [<-e] at q;refine floordiv_int (by omega) q (.inl (PyProof.noPylong_of_log2 ?_));have h0:j.natAbs≠0:=by omega
 have h1:j.natAbs < 2 ^ 200:=by omega
 have:=(Nat.log2_lt h0).mpr h1;omega
theorem Le (hu:X.A.units + 64 < cLine):fL X (compareOp .NotEq) (λx y H Q=>∃ a b xs,x=.ref a/\y=.ref b/\aG X.K H a xs/\aG X.K H b []/\Q (.bl (!xs.isEmpty)) H):=by
 intro af s σ H x y v u Q I rx ry h;obtain ⟨a,b,xs,rfl,rfl,ha,hb,q⟩:=h;cases rx;cases ry;obtain ⟨ay,r,p,_⟩:=I.list ha;obtain ⟨cE,r2,p2,_⟩:=I.list hb;cases r2;cases r with
 | nil=>exact SeqAt.RcNeAt.lists (e:=λ_=>true) p.isList p2.isList rfl (by omega) (λj h1=>absurd h1 (zd _)) _ _ _ _ ⟨.bl _,H,I,rfl,q⟩
 | cons r1 rr=>exact SeqAt.RcNeAt.lists_lengths p.isList p2.isList (by simp) (by omega) _ _ _ _ ⟨.bl _,H,I,rfl,q⟩
theorem vd (hu:X.A.units + 64 < cLine):fL X (compareOp .Eq) (λx y H Q=>∃ a b xs,x=.ref a/\y=.ref b/\bq X.K H a xs/\bq X.K H b []/\Q (.bl xs.isEmpty) H):=by
 intro af s σ H x y v u Q I rx ry h;obtain ⟨a,b,xs,rfl,rfl,ha,hb,q⟩:=h;cases rx;cases ry;obtain ⟨ay,r,p,_⟩:=I.tuple ha;obtain ⟨cE,r2,p2,_⟩:=I.tuple hb;cases r2;have q':Q (.bl ((List.range (min ay.toArray.size ([]:List Value).toArray.size)).all (λ_=>true) && ay.toArray.size == ([]:List Value).toArray.size)) H:=by
  cases r with
  | nil=>simpa using q
  | cons r1 rr=>simpa using q
 exact SeqAt.RcAt.tuples (e:=λ_=>true) p p2 (by omega) (λj h1 h2=>absurd h2 (zd _)) _ _ _ _ ⟨.bl _,H,I,rfl,q'⟩
variable {K:PySem.W.Frag}
theorem xw {es:List Expr}{k:Nat}{t:OW}{n:Nat}{pos:Pos}(hK:X.K=K)(hc:X.calm=true)(h:TH X es t)
  (hn:(assignEach es X.env).length=n:=by rfl) (vB:(assignEach es X.env).findIdx? (·.1)=none:=by rfl):PG X (.Tuple es k pos) (vG K n t):=by subst hK;exact Pz hc h hn vB
theorem wP {tg l:Expr}{tl:TE}(hK:X.K=K)(hl:PE X l tl):PI X tg l (OA K tl):=by subst hK;exact Nv hl
theorem fz {tg l:Expr}{tl:TE}(hK:X.K=K)(hl:PE X l tl):PI X tg l (Ss K tl):=by subst hK;exact Py hl
theorem xb (hK:X.K=K):TX X (rR K):=by subst hK;exact NP
theorem xi (hK:X.K=K):TX X (uZ K):=by subst hK;exact Qd
theorem KR (hK:X.K=K):Tw X (R0 K):=by subst hK;exact Ni
theorem Nh (hK:X.K=K):Tw X (RZ K):=by subst hK;exact Po
theorem gK (hK:X.K=K):fL X (compareOp .In) (Wr K false):=by subst hK;exact vc
theorem xf (hK:X.K=K):dc X (.builtin "len") (λxs H Q=>∃ p ys,xs=[.ref p]/\(aG K H p ys\/bq K H p ys)/\Q (.int ys.length) H):=by subst hK;exact n5
theorem lJ (hK:X.K=K):dc X (.type "list") (λxs H Q=>∃ p ys,xs=[.ref p]/\(aG K H p ys\/bq K H p ys)/\∀ l,H l=none->Q (.ref l) (upd H l (.lst ys))):=by subst hK;exact nZ
end
theorem LP {X:Cx}{K:PySem.W.Frag}(hK:X.K=K):TN X (λo i H Q=>∃ p xs v,∃ k:Nat,o=.ref p/\i=.int k/\aG K H p xs/\xs[k]?=some v/\Q v H):=by subst hK;intro af s σ H o i ov iv Q I ro ri h;obtain ⟨p,xs,v,k,rfl,rfl,hq,hv,q⟩:=h;cases ro;obtain ⟨t,rfl⟩:=ri;obtain ⟨ay,r,pl,hz⟩:=I.list hq;obtain ⟨w,ew,uW⟩:=r.get hv;have hk:k < xs.length:=(zC.mp hv).1;have hn:=iW;exact wpAny_getItem_list pl.isList (by omega) (by omega) (by simpa using ew) ⟨v,H,I,uW,q⟩
end L2
namespace aR
open PySem PySem.W PyProof.Rows
def fc {α:Type}(n:Nat)(c:Nat->Nat->Bool):KasT α->(α->Prop)->Prop
 | .ret a,P=>P a
 | .ask i j k,P=>i < n/\j < n/\fc n c (k (c i j)) P
theorem fc.bind {α β:Type}{n:Nat}{c:Nat->Nat->Bool}{f:α->KasT β}{P:β->Prop}:∀ (t:KasT α),fc n c t (λa=>fc n c (f a) P)->fc n c (t.bind f) P
 | .ret a,h=>h
 | .ask i j k,h=>⟨h.1,h.2.1,fc.bind (k (c i j)) h.2.2⟩
theorem fc.mono {α:Type}{n:Nat}{c:Nat->Nat->Bool}{P P':α->Prop}(hp:∀ a,P a->P' a):∀ (t:KasT α),fc n c t P->fc n c t P'
 | .ret a,h=>hp a h
 | .ask i j k,h=>⟨h.1,h.2.1,fc.mono hp (k (c i j)) h.2.2⟩
theorem fc.wp {α:Type}{n:Nat}{c:Nat->Nat->Bool}{P:α->Prop}{Q:α->Shared->Prop}{cmp:Nat->Nat->(Bool->Shared->Prop)->Shared->Prop}{s:Shared}
  (hc:∀ i j C,i < n->j < n->C (c i j) s->cmp i j C s) (hq:∀ a,P a->Q a s):∀ (t:KasT α),fc n c t P->t.kasWp cmp Q s
 | .ret a,h=>hq a h
 | .ask i j k,h=>hc i j _ h.1 h.2.1 (fc.wp hc hq (k (c i j)) h.2.2)
section
variable {n:Nat}{f:Nat->Int}
def at' (p:Array Nat)(i:Nat):Nat:=(p[i]?).getD 0
theorem getD_at (p:Array Nat)(i:Nat):p.getD i 0=at' p i:=by unfold at';simp
def g (f:Nat->Int)(p:Array Nat)(i:Nat):Int:=f (at' p i)
def Pm (n:Nat)(p:Array Nat):Prop:=p.Perm (List.toArray (List.range n))
theorem Pm.size {p:Array Nat}(h:Pm n p):p.size=n:=by rw [Array.Perm.size_eq h];simp
theorem Pm.lt {p:Array Nat}(h:Pm n p){i:Nat}(hi:i < n):at' p i < n:=by
 have hs:=h.size;have e:at' p i=p[i]'(by omega):=by unfold at';simp [hs,hi]
 have hm:p[i]'(by omega)∈p:=Array.getElem_mem _;have vD:=(Array.Perm.mem_iff h).mp hm;rw [e];simpa using vD
theorem Pm.rev {p:Array Nat}(h:Pm n p)(i j:Nat):Pm n (kas_rev p i j):=(mirror_perm p i j _).trans h
theorem Pm.bub {p:Array Nat}(h:Pm n p)(k d:Nat):Pm n (bubble p k d):=(bubble_perm p k d).trans h
theorem uc {p:Array Nat}{i j:Nat}(hj:j<=p.size)(k:Nat):g f (kas_rev p i j) k=if i<=k/\k < j then g f p (i + j - 1 - k) else g f p k:=by unfold g at' kas_rev;rw [getElem?_mirror_all hj k];split <;> rfl
theorem ON {p:Array Nat}{src d:Nat}(hs:src < p.size)(hd:d<=src)(k:Nat):g f (bubble p src d) k=if k=src - d then g f p src else if src - d < k/\k<=src then g f p (k - 1) else g f p k:=by
 unfold g at';rw [getElem?_bubble hs d hd k];split
 ·rfl
 ·split <;> rfl
def Up (f:Nat->Int)(p:Array Nat)(k:Nat):Prop:=∀ i j,i<=j->j < k->g f p i<=g f p j
def Dn (f:Nat->Int)(p:Array Nat)(k:Nat):Prop:=∀ i j,i<=j->j < k->g f p j<=g f p i
def cf (f:Nat->Int)(i j:Nat):Bool:=decide (f i < f j)
theorem sV {p:Array Nat}(hp:Pm n p):∀ (q m:Nat),1<=m->m + q<=n->Up f p m->fc n (cf f) (kas_asc p q m) (λm'=>m<=m'/\m'<=m + q/\Up f p m'/\(m' < m + q->g f p m' < g f p (m' - 1)))
 | 0,m,_,_,hu=>⟨zE _,zE _,hu,λh=>absurd h (yK _)⟩
 | q + 1,m,h1,h2,hu=>by
  unfold kas_asc;refine ⟨by rw [getD_at];exact hp.lt (by omega),by rw [getD_at];exact hp.lt (by omega),?_⟩;rw [getD_at,getD_at];by_cases hc:g f p m < g f p (m - 1)
  ·have e:cf f (at' p m) (at' p (m - 1))=true:=decide_eq_true hc;rw [e];dsimp only;rw [if_pos rfl];exact ⟨zE _,by omega,hu,λ_=>hc⟩
  ·have e:cf f (at' p m) (at' p (m - 1))=false:=decide_eq_false hc;rw [e];dsimp only;rw [if_neg zM];refine fc.mono (λm' h=>⟨by omega,by omega,h.2.2.1,λz=>h.2.2.2 (by omega)⟩) _ (sV hp q (m + 1) (by omega) (by omega) λi j pZ hj=>?_);by_cases Qv:j < m
   ·exact hu i j pZ Qv
   ·have ej:j=m:=by omega
    subst ej;by_cases hi:i=j
    ·subst hi;omega
    ·have:=hu i (j - 1) (by omega) (by omega);omega
def UZ (f:Nat->Int)(p:Array Nat)(m q:Nat):Prop:=∀ i,m<=i + (q + 1)->i < m->g f p i=g f p (m - 1)
theorem jU {p:Array Nat}(hp:Pm n p){m q:Nat}(hm:m<=n)(hq:q + 1<=m)(hb:UZ f p m q)(k:Nat):g f (kas_rev p (m - (q + 1)) m) k=g f p k:=by
 rw [uc (by rw [hp.size];exact hm)];split
 ·rename_i h;rw [hb _ (by omega) (by omega),hb k (by omega) (by omega)]
 ·rfl
theorem nW:∀ (t:Nat) (p:Array Nat) (m q:Nat),Pm n p->1<=m->m + t<=n->q + 1<=m->Dn f p m->UZ f p m q ->
  fc n (cf f) (kas_desc t p m q) (λr=>Pm n r.1/\m<=r.2.1/\r.2.1<=n/\r.2.2 + 1<=r.2.1/\Dn f r.1 r.2.1/\UZ f r.1 r.2.1 r.2.2)
 | 0,p,m,q,hp,h1,h2,h3,hd,hb=>⟨hp,zE _,by simpa using h2,h3,hd,hb⟩
 | t + 1,p,m,q,hp,h1,h2,h3,hd,hb=>by
  unfold kas_desc;refine ⟨by rw [getD_at];exact hp.lt (by omega),by rw [getD_at];exact hp.lt (by omega),?_⟩;rw [getD_at,getD_at];by_cases hc:g f p m < g f p (m - 1)
  ·have e:cf f (at' p m) (at' p (m - 1))=true:=decide_eq_true hc;rw [e];dsimp only;rw [if_pos rfl];have step:∀ p':Array Nat,Pm n p'->(∀ k,g f p' k=g f p k)->fc n (cf f) (kas_desc t p' (m + 1) 0) (λr=>Pm n r.1/\m<=r.2.1/\r.2.1<=n/\r.2.2 + 1<=r.2.1/\Dn f r.1 r.2.1/\UZ f r.1 r.2.1 r.2.2):=λp' Ro hg=>by
    refine fc.mono (λr h=>⟨h.1,by omega,h.2.2⟩) _ (nW t p' (m + 1) 0 Ro (by omega) (by omega) (by omega) (λi j pZ hj=>?_) λi hi e8=>?_)
    ·rw [hg,hg];by_cases Qv:j < m
     ·exact hd i j pZ Qv
     ·have ej:j=m:=by omega
      subst ej;by_cases hi:i=j
      ·subst hi;omega
      ·have:=hd i (j - 1) (by omega) (by omega);omega
    ·have:i=m + 1 - 1:=by omega
     rw [this]
   split
   ·exact step _ (hp.rev _ _) (jU hp (by omega) h3 hb)
   ·exact step _ hp λ_=>rfl
  ·have e:cf f (at' p m) (at' p (m - 1))=false:=decide_eq_false hc;rw [e];dsimp only;rw [if_neg zM];refine ⟨hp.lt (by omega),hp.lt (by omega),?_⟩;by_cases OG:g f p (m - 1) < g f p m
   ·have e2:cf f (at' p (m - 1)) (at' p m)=true:=decide_eq_true OG;rw [e2];dsimp only;rw [if_pos rfl];exact ⟨hp,zE _,by show m<=n;omega,h3,hd,hb⟩
   ·have e2:cf f (at' p (m - 1)) (at' p m)=false:=decide_eq_false OG;rw [e2];dsimp only;rw [if_neg zM];have eq:g f p m=g f p (m - 1):=by omega
    refine fc.mono (λr h=>⟨h.1,by omega,h.2.2⟩) _ (nW t p (m + 1) (q + 1) hp (by omega) (by omega) (by omega) (λi j pZ hj=>?_) λi hi e8=>?_)
    ·by_cases Qv:j < m
     ·exact hd i j pZ Qv
     ·have ej:j=m:=by omega
      subst ej;by_cases hi:i=j
      ·subst hi;omega
      ·have:=hd i (j - 1) (by omega) (by omega);omega
    ·rw [show m + 1 - 1=m from rfl];by_cases LK:i=m
     ·rw [LK]
     ·rw [hb i (by omega) (by omega),eq]
theorem oR {p:Array Nat}{m:Nat}(hp:Pm n p)(h1:1<=m)(hm:m<=n)(hd:Dn f p m):fc n (cf f) (kas_tail3 m n p) (λr=>Pm n r.2/\r.1<=n/\1<=r.1/\Up f r.2 r.1):=by unfold kas_tail3;have Ro:=hp.rev 0 m;refine fc.bind _ (fc.mono (λm' h=>⟨Ro,by omega,by omega,h.2.2.1⟩) _ (sV Ro (n - m) m h1 (by omega) λi j pZ hj=>?_));rw [uc (by rw [hp.size];exact hm),uc (by rw [hp.size];exact hm),if_pos ⟨by omega,by omega⟩,if_pos ⟨by omega,by omega⟩];exact hd _ _ (by omega) (by omega)
theorem jm {p:Array Nat}{m:Nat}(hp:Pm n p)(h1:1<=m)(hm:m < n)(hd:Dn f p (m + 1)):fc n (cf f) (kas_descPart m n p) (λr=>Pm n r.2/\r.1<=n/\1<=r.1/\Up f r.2 r.1):=by
 unfold kas_descPart;refine fc.bind _ (fc.mono (λr h=>?_) _ (nW (n - (m + 1)) p (m + 1) 0 hp (by omega) (by omega) (by omega) hd λi hi e8=>by rw [show i=m + 1 - 1 by omega]));obtain ⟨a1,a2,a3,a4,a5,a6⟩:=h;split
 ·exact oR (a1.rev _ _) (by omega) a3 λi j pZ hj=>by
   rw [jU a1 a3 a4 a6,jU a1 a3 a4 a6];exact a5 i j pZ hj
 ·exact oR a1 (by omega) a3 a5
theorem Ml {p:Array Nat}(hn:1<=n)(hp:Pm n p):fc n (cf f) (kas_count n p) (λr=>Pm n r.2/\r.1<=n/\1<=r.1/\Up f r.2 r.1):=by
 unfold kas_count;refine fc.bind _ (fc.mono (λm h=>?_) _ (sV hp (n - 1) 1 (zE _) (by omega) λi j pZ hj=>by rw [show i=j by omega];omega));obtain ⟨a1,a2,a3,a4⟩:=h;split
 ·exact ⟨hp,by omega,a1,a3⟩
 ·rename_i qL;have cN:m < n:=by
   have:¬ m=n:=by simpa using qL
   omega
  have a4':=a4 (by omega);split
  ·rename_i hm1;refine ⟨by rw [getD_at];exact hp.lt (by omega),by rw [getD_at];exact hp.lt (by omega),?_⟩;rw [getD_at,getD_at];by_cases hc:g f p 0 < g f p (m - 1)
   ·have e:cf f (at' p 0) (at' p (m - 1))=true:=decide_eq_true hc;rw [e];dsimp only;rw [if_pos rfl];exact ⟨hp,by omega,a1,a3⟩
   ·have e:cf f (at' p 0) (at' p (m - 1))=false:=decide_eq_false hc;rw [e];dsimp only;rw [if_neg zM];have all:∀ k,k < m->g f p k=g f p 0:=λk hk=>by
     have:=a3 0 k (by omega) hk;have:=a3 k (m - 1) (by omega) (by omega);omega
    have gr:∀ k,g f (kas_rev p 0 m) k=g f p k:=λk=>by
     rw [uc (by rw [hp.size];omega)];split
     ·rw [all _ (by omega),all k (by omega)]
     ·rfl
    refine jm (hp.rev _ _) a1 cN λi j pZ hj=>?_;rw [gr,gr];by_cases Qv:j < m
    ·rw [all i (by omega),all j Qv];omega
    ·have ej:j=m:=by omega
     subst ej;by_cases hi:i=j
     ·subst hi;omega
     ·have:=all i (by omega);have:=all (j - 1) (by omega);omega
  ·refine jm hp a1 cN λi j pZ hj=>?_;have em:m=1:=by omega
   subst em;by_cases hi:i=j
   ·subst hi;omega
   ·have e1:i=0:=by omega
    have e2:j=1:=by omega
    subst e1 e2;have:g f p 1 < g f p 0:=a4';omega
theorem jV {p:Array Nat}{k:Nat}(hp:Pm n p)(hk:k < n)(hu:Up f p k):∀ (t l r:Nat),l<=r->r<=k->r<=l + t->(∀ i,i < l->g f p i<=g f p k)->(∀ i,r<=i->i < k->g f p k < g f p i) ->
  fc n (cf f) (kas_place p k t l r) (λl'=>l'<=k/\(∀ i,i < l'->g f p i<=g f p k)/\∀ i,l'<=i->i < k->g f p k < g f p i)
 | 0,l,r,h1,h2,h3,ha,hb=>⟨by omega,ha,λi hi e8=>hb i (by omega) e8⟩
 | t + 1,l,r,h1,h2,h3,ha,hb=>by
  unfold kas_place;split
  ·exact ⟨by omega,ha,λi hi e8=>hb i (by omega) e8⟩
  ·rename_i Qp;refine ⟨by rw [getD_at];exact hp.lt hk,by rw [getD_at];exact hp.lt (by omega),?_⟩;rw [getD_at,getD_at];by_cases hc:g f p k < g f p ((l + r) / 2)
   ·have e:cf f (at' p k) (at' p ((l + r) / 2))=true:=decide_eq_true hc;rw [e];dsimp only;rw [if_pos rfl];refine jV hp hk hu t l ((l + r) / 2) (by omega) (by omega) (by omega) ha λi hi e8=>?_;have:=hu ((l + r) / 2) i (by omega) e8;omega
   ·have e:cf f (at' p k) (at' p ((l + r) / 2))=false:=decide_eq_false hc;rw [e];dsimp only;rw [if_neg zM];refine jV hp hk hu t ((l + r) / 2 + 1) r (by omega) (by omega) (by omega) (λi hi=>?_) hb;have:=hu i ((l + r) / 2) (by omega) (by omega);omega
theorem Ms:∀ (t:Nat) (p:Array Nat) (k:Nat),Pm n p->k + t=n->Up f p k->fc n (cf f) (kas_bin t p k) (λp'=>Pm n p'/\Up f p' n)
 | 0,p,k,hp,hk,hu=>⟨hp,by rw [<-hk];exact hu⟩
 | t + 1,p,k,hp,hk,hu=>by
  unfold kas_bin;refine fc.bind _ (fc.mono (λl h=>?_) _ (jV hp (by omega) hu k 0 k (by omega) (by omega) (by omega) (λi hi=>absurd hi (zd _)) λi hi e8=>absurd e8 (by omega)));obtain ⟨a1,a2,a3⟩:=h;refine Ms t _ (k + 1) (hp.bub _ _) (by omega) λi j pZ hj=>?_;have hs:k < p.size:=by rw [hp.size];omega
  rw [ON hs (by omega),ON hs (by omega)];have el:k - (k - l)=l:=by omega
  rw [el];by_cases Zs:i=l
  ·rw [if_pos Zs];by_cases SQ:j=l
   ·rw [if_pos SQ];omega
   ·rw [if_neg SQ,if_pos ⟨by omega,by omega⟩];have:=a3 (j - 1) (by omega) (by omega);omega
  ·rw [if_neg Zs];by_cases LK:l < i/\i<=k
   ·rw [if_pos LK];rw [if_neg (by omega),if_pos ⟨by omega,by omega⟩];exact hu _ _ (by omega) (by omega)
   ·rw [if_neg LK];have hi3:i < l:=by omega
    by_cases SQ:j=l
    ·rw [if_pos SQ];exact a2 i hi3
    ·rw [if_neg SQ];by_cases Zp:l < j/\j<=k
     ·rw [if_pos Zp];exact hu _ _ (by omega) (by omega)
     ·rw [if_neg Zp];exact hu _ _ pZ (by omega)
theorem Ng (hn:1<=n):fc n (cf f) (kas_sort n) (λp=>Pm n p/\Up f p n):=by
 unfold kas_sort;refine fc.bind _ (fc.mono (λr h=>?_) _ (Ml hn (show Pm n (List.toArray (List.range n)) from Array.Perm.refl _)));obtain ⟨a1,a2,a3,a4⟩:=h;split
 ·have e:max r.1 1=r.1:=by omega
  rw [e];exact Ms _ _ _ a1 (by omega) a4
 ·have e:r.1=n:=by omega
  exact ⟨a1,by rw [<-e];exact a4⟩
end
end aR
namespace aR
def lx:List Int->List Int->Bool
 | [],[]=>false
 | [],_::_=>true
 | _::_,[]=>false
 | x::xs,y::ys=>if x=y then lx xs ys else decide (x < y)
theorem Lq:∀ r:List Int,lx r r=false
 | []=>rfl
 | x::xs=>by unfold lx;rw [if_pos rfl];exact Lq xs
theorem Lp:∀ {a b c:List Int},lx a b=true->lx b c=true->lx a c=true
 | [],[],_,h,_=>by cases h
 | [],_::_,[],_,h=>by cases h
 | [],_::_,_::_,_,_=>rfl
 | _::_,[],_,h,_=>by cases h
 | _::_,_::_,[],_,h=>by cases h
 | x::xs,y::ys,z::zs,h,h'=>by
  unfold lx at h h' ⊢;split at h
  ·split at h'
   ·rename_i e1 e2;rw [if_pos (e1.trans e2)];exact Lp h h'
   ·rename_i e1 e2;simp only [decide_eq_true_eq] at h';rw [if_neg (by omega)];simp only [decide_eq_true_eq];omega
  ·simp only [decide_eq_true_eq] at h;split at h'
   ·rename_i e1 e2;rw [if_neg (by omega)];simp only [decide_eq_true_eq];omega
   ·simp only [decide_eq_true_eq] at h';rw [if_neg (by omega)];simp only [decide_eq_true_eq];omega
theorem r9:∀ {a b:List Int},lx a b=false->lx b a=false->a=b
 | [],[],_,_=>rfl
 | [],_::_,h,_=>by cases h
 | _::_,[],_,h=>by cases h
 | x::xs,y::ys,h,h'=>by
  unfold lx at h h';split at h
  ·rename_i e;subst e;rw [if_pos rfl] at h';rw [r9 h h']
  ·rename_i e;rw [if_neg λz=>e z.symm] at h';simp only [decide_eq_false_iff_not] at h h';omega
def rk (rs:List (List Int))(r:List Int):Int:=((rs.countP λx=>lx x r:Nat):Int)
theorem i7 {α:Type}{p q:α->Bool}{a:α}:∀ {l:List α},(∀ x,p x=true->q x=true)->a∈l->p a=false->q a=true->l.countP p < l.countP q
 | [],_,h,_,_=>by cases h
 | x::l,Xh,h,h1,h2=>by
  have hm:l.countP p<=l.countP q:=List.countP_mono_left λx _=>Xh x;rcases zK.mp h with rfl | h
  ·rw [List.countP_cons_of_neg (by rw [h1];exact zM),List.countP_cons_of_pos h2];omega
  ·have:=i7 Xh h h1 h2;rw [List.countP_cons,List.countP_cons];cases e:p x with
   | true=>rw [Xh x e];simp;omega
   | false=>cases e2:q x <;> simp <;> omega
theorem Oo {rs:List (List Int)}{a b:List Int}(ha:a∈rs):decide (rk rs a < rk rs b)=lx a b:=by
 unfold rk;cases h:lx a b with
 | true=>
  have:=i7 (p:=λx=>lx x a) (q:=λx=>lx x b) (λx hx=>Lp hx h) ha (Lq a) h;simp only [decide_eq_true_eq];omega
 | false=>
  have hm:rs.countP (λx=>lx x b)<=rs.countP (λx=>lx x a):=List.countP_mono_left λx _ hx=>by
   cases h':lx b a with
   | true=>exact Lp hx h'
   | false=>rw [r9 h h'];exact hx
  simp only [decide_eq_false_iff_not];omega
end aR
namespace L2
open PySem PySem.Spec PyProof.Rows PySem.W aR
theorem aW.at {P:Program}{w:World}{H:Hp}{h:Heap}{a:Addr}{o:HO}(x:aW P w H h a o):∃ ob,h.get? a=some ob:=by
 cases o with
 | lst xs=>obtain ⟨_,_,_,_,e⟩:=x;exact ⟨_,e⟩
 | tup xs=>obtain ⟨_,_,_,ob,e,_⟩:=x;exact ⟨_,e⟩
 | dK aF=>obtain ⟨_,_,_,_,o,_,_,e,_⟩:=x;exact ⟨_,e⟩
 | dT aF=>obtain ⟨_,_,_,_,o,_,_,e,_⟩:=x;exact ⟨_,e⟩
 | set S n=>obtain ⟨o,_,_,_,e,_⟩:=x;exact ⟨_,e⟩
 | ins C dx fs=>obtain ⟨_,_,_,e,_⟩:=x;exact ⟨_,e⟩
 | own y=>obtain ⟨_,e⟩:=x;exact ⟨_,e⟩
 | xd fs=>obtain ⟨_,⟨_,_,_,e,_⟩,_⟩:=x;exact ⟨_,e⟩
 | Ue lo hi=>obtain ⟨_,_,_,e⟩:=x;exact ⟨_,e⟩
 | nN ob u=>obtain ⟨e,_⟩:=x;exact ⟨_,e⟩
 | ju ps=>exact ⟨_,(show h.get? a=some _ from x)⟩
 | met f y=>exact ⟨_,(show h.get? a=some _ from x)⟩
 | ext φ=>obtain ⟨_,⟨_,e⟩,_⟩:=x;exact ⟨_,e⟩
section
variable {X:Cx}{af:List (Addr×Obj)}{σ:St}{H:Hp}{s:Shared}
theorem Inv.KQ {m:Str->Option Value}{h':Heap}{D:Addr}{ay:List Value}{c:Nat}{xs:List V}(I:Inv X af σ H s)(F0:Fr X.base X.env.locals s.heap m)(F:Fr X.base X.env.locals h' m)
  (N:News X.base X.env.locals h' ((D,listOf ay.toArray c)::eB X.base s.heap X.env.locals)) (lt:∀ q∈eB X.base s.heap X.env.locals,q.1 < D) (hv:Vals xs ay) (hz:xs.length<=sizeLine) :
  Inv X af σ (upd H D (.lst xs)) { s with heap:=h' }/\H D=none:=by
 obtain ⟨eD,nL,nb⟩:=N (D,listOf ay.toArray c) (.head _);have R5:s.heap.get? D=none:=by
  cases q:s.heap.get? D with
  | none=>rfl
  | some o=>exact absurd (lt (D,o) (dm nL nb q)) (yK _)
 have hD:H D=none:=by
  cases q:H D with
  | none=>rfl
  | some u=>
   obtain ⟨ob,e⟩:=(I.aY D u q).at;rw [R5] at e;cases e
 have keep:∀ b o,b≠X.env.locals->s.heap.get? b=some o->h'.get? b=some o:=λb o hb e=>by
  cases q:X.base.get? b with
  | some u=>
   have:=I.bk b u q;rw [e] at this;cases this;exact F.keep b _ q
  | none=>exact (N (b,o) (.tail _ (dm hb q e))).1
 have Ur:∀ b o,s.heap.get? b=some o->b≠D:=λb o e z=>by rw [z,R5] at e;cases e
 have neT:∀ b u,H b=some u->b≠D:=λb u e z=>by rw [z,hD] at e;cases e
 refine ⟨I.step (g':=s.gens) (t':=s.toks) (d':=s.drawn) (ch:=[]) (λ_ z=>nomatch z) (λb o hb _ _ e _=>keep b o hb e) (λb o hb _ _ e _=>⟨o.slots,keep b o hb e⟩) (λb o _ e n=>by rw [xX (Ur b o e)];exact n) (λb o _ e=>?_)
  (λb ys e=>by rw [xX (neT b _ e)];exact e) (λb o u e=>by rw [xX (neT b _ e)];exact e) (λb ps e=>⟨#[],by rw [xX (neT b _ e),e,Array.append_empty]⟩) (λm' hm=>?_) (λb u e=>?_) I.bare,hD⟩
 ·by_cases hb:b=X.env.locals
  ·obtain ⟨o',_,_,q,_⟩:=F.ns;exact ⟨o',by rw [hb];exact q⟩
  ·exact ⟨o,keep b o hb e⟩
 ·obtain ⟨o1,OQ,ep1,e1,d1,k1,f1⟩:=hm;obtain ⟨o2,es2,ep2,e2,d2,k2,f2⟩:=F0.ns;rw [e1] at e2;cases e2;rw [d1] at d2;cases d2;obtain ⟨o3,Yc,Yd,e3,d3,k3,f3⟩:=F.ns;exact ⟨o3,Yc,Yd,e3,d3,k3,λname=>(f3 name).trans ((f2 name).symm.trans (f1 name))⟩
 ·by_cases hb:b=D
  ·subst hb;rw [xS] at e;cases e;exact ⟨hz,ay,c,hv,eD⟩
  ·rw [xX hb] at e;refine (I.aY b u e).fh (λc v hc q=>keep c v (λz=>?_) q) (λc q=>by rw [xX (neT c _ q)];exact q) λc ys q=>by rw [xX (neT c _ q)];exact q
   rcases hc with rfl | hc
   ·rw [z,I.free] at e;cases e
   ·rw [z,I.free] at hc;cases hc
end
section
variable {prog:Program}{w:World}{A:Around}{E:Value->Shared->Prop}{s:Shared}
theorem rO {ay:List Value}(iN:ay.length < 2):(ay.toArray.zip ay.toArray).map (·.2)=ay.toArray:=by
 rcases ay with _ | ⟨x,_ | ⟨y,r⟩⟩
 ·simp
 ·simp
 ·exact absurd iN (by simp)
theorem rN {a:Addr}{ay:List Value}{k:Nat}{P:PySem.Fin->Shared->Prop}(hx:s.heap.get? a=some (seqObj "list" ay.toArray k))(iN:ay.length < 2)
  (done:P (.done (.ret .none)) { s with heap:=sortedHeap s.heap a ay ay.toArray }):wpAny (model prog w) A (Builtin.«list.sort» ⟨[.ref a],[]⟩) P E s:=by
 have here:a < s.heap.objs.size:=Heap.lt_size hx;have line:ay.length<=sizeLine:=by rw [sizeLine_eq];omega
 rw [list_sort_plain];obtain ⟨e1,UU⟩:∃ e1,(s.heap.update a (Obj.mapSeq λ_=>(#[]:Array Value))).get? a=some (seqObj "list" #[] e1):=⟨_,get?_update_seq hx (λ_=>#[])⟩;refine wpAny_bind (listItems_at hx rfl (wpAny_bind (listUpdate_at hx rfl (wpAny_bind (seqEpoch_at UU rfl (wpAny_bind (wpAny_newTuple (wpAny_bind (wpAny_newList (wpAny_holding ?_) (zc _))) line))))
  (by rw [zO];exact line) (zc _))))
 have at2:(((s.heap.update a (Obj.mapSeq λ_=>(#[]:Array Value))).push (seqObj "tuple" ay.toArray 0)).push (seqObj "list" #[] 0)).get? a=some (seqObj "list" #[] e1):=
  Heap.get?_push_of_some _ (Heap.get?_push_of_some _ UU)
 show wpAny (model prog w) A _ P E { s with heap:=((s.heap.update a (Obj.mapSeq λ_=>(#[]:Array Value))).push (seqObj "tuple" ay.toArray 0)).push (seqObj "list" #[] 0) };have less:ay.toArray.size < 2:=by rw [zO];exact iN
 have RP:(arrOf (SortSt.mk' general' (ay.toArray.zip ay.toArray) #[] 7 none)).map (·.2)=ay.toArray:=by
  show (ay.toArray.zip ay.toArray).map (·.2)=ay.toArray;exact rO iN
 dsimp only;rw [if_pos less,if_pos less];refine wpAny_bind (wpAny_pure ?_);rw [StateT.run_pure];refine wpAny_bind (wpAny_pure ?_);dsimp only;refine wpAny_bind (seqEpoch_at at2 rfl (wpAny_bind (listUpdate_at at2 rfl ?_ (zc _) (by rw [RP,zO];omega))));simp only [bne_self_eq_false,zg,if_false];rw [RP];exact wpAny_pure done
theorem ni {l:Addr}{ay:List Value}{Q:Value->Shared->Prop}(hl:s.heap.IsList l ay.toArray)(iN:ay.length < 2)
  (done:Q (.ref (s.heap.objs.size + 1)) { s with heap:=sortedAll s.heap ay ay.toArray }):wpAny (model prog w) A (call (.builtin "sorted") [.ref l]) Q E s:=by
 have line:ay.length<=sizeLine:=by rw [sizeLine_eq];omega
 refine Calls.call_function_entry kind_sorted plain_sorted entry_sorted (args_sorted1 _) ?_;unfold Builtin.«sorted»;refine wpAny_bind (m:=checkCount "sorted" 1 1 _) (wpAny_pure (wpAny_bind (collect_list hl (wpAny_bind (wpAny_newList ?_ line)) line)));have sz:((s.heap.push (seqObj "list" #[] 0)).update s.heap.objs.size (Obj.mapSeq (·++ay.toArray))).objs.size=s.heap.objs.size + 1:=by rw [Heap.size_update,size_push']
 have Z5:(((s.heap.push (seqObj "list" #[] 0)).update s.heap.objs.size (Obj.mapSeq (·++ay.toArray))).push (seqObj "list" ay.toArray 0)).get? (s.heap.objs.size + 1)=some (seqObj "list" ay.toArray 0):=by
  rw [<-sz];exact Heap.get?_push_size _ rfl
 show wpAny _ _ _ _ _ { s with heap:=((s.heap.push (seqObj "list" #[] 0)).update s.heap.objs.size (Obj.mapSeq (·++ay.toArray))).push (seqObj "list" ay.toArray 0) };rw [sz];exact wpAny_bind (wpAny_holding (wpAny_call_entry slot_list_sort ⟨_,Z5,rfl⟩ entry_list_sort (rN Z5 iN ⟨_,rfl,wpAny_pure ⟨_,rfl,done⟩⟩) (args_list_sort _)))
end
section
variable {X:Cx}
theorem lQ:∀ {ps:List (Addr×List Int)}{us:List Value},Vals (ps.map λa=>V.ref a.1) us->us=ps.map λa=>Value.ref a.1
 | [],us,r=>by cases r;rfl
 | a::ps,us,r=>by
  cases r with
  | cons x y=>rw [lQ y];cases x;rfl
def OY (h:Heap)(a:Addr)(r:List Int):Prop:=∃ o items n,h.get? a=some o/\o.cls=.type "tuple" /\ o.data=.seq items n/\Vals (r.map V.int) items.toList
theorem oK {prog:Program}{w:World}{A:Around}{s:Shared}{b fin:Bool}{Q:Bool->Shared->Prop}:∀ {r r':List Int}{us O4:List Value}{i:Nat},Vals (r.map V.int) us->Vals (r'.map V.int) O4->fin=decide (us.length < O4.length)->Q (lx r r') s ->
  KatLex prog w A b fin Q (us.zip O4) i s
 | [],[],us,O4,i,ru,KW,hf,q=>by cases ru;cases KW;exact kat_nil (by rw [hf];exact q)
 | [],_::_,us,O4,i,ru,KW,hf,q=>by
  cases ru;cases KW with
  | cons _ _=>exact kat_nil (by rw [hf];simpa [lx] using q)
 | _::_,[],us,O4,i,ru,KW,hf,q=>by
  cases KW;cases ru with
  | cons _ _=>exact kat_nil (by rw [hf];simpa [lx] using q)
 | x::r,y::r',us,O4,i,ru,KW,hf,q=>by
  cases ru with
  | cons rx ru=>
  cases KW with
  | cons ry KW=>
  obtain ⟨t,rfl⟩:=rx;obtain ⟨t',rfl⟩:=ry;refine kat_cons (wpAny_eqBool_int ?_);unfold lx at q;by_cases e:x=y
  ·subst e;rw [if_pos rfl] at q;rw [show (x == x)=true from by simp];exact kat_yes (oK ru KW (by rw [hf];simp) q)
  ·rw [if_neg e] at q;rw [show (x == y)=false from by simpa using e];refine kat_no ?_;cases (b && i == 0) with
   | true=>exact oneLt_int q
   | false=>exact kat_one _ _ (lt_int q)
theorem pR {h:Heap}:∀ {ps:List (Addr×List Int)},(∀ a∈ps,OY h a.1 a.2/\a.2≠[])->∃ fs,KatTups h (ps.map λa=>Value.ref a.1) fs/\fs.length=ps.length/\∀ v∈fs,∃ i t,v=Value.int i t
 | [],_=>⟨[],KatTups.nil,rfl,λ_ z=>nomatch z⟩
 | (a,r)::ps,hp=>by
  obtain ⟨fs,k,l,f⟩:=pR λa ha=>hp a (.tail _ ha);obtain ⟨⟨o,items,n,ho,hc,hd,hv⟩,hn⟩:=hp (a,r) (.head _)
  match r,hn,hv with
  | x::r,_,hv=>
   obtain ⟨u,hu,t,e⟩:=Vals.get (i:=0) hv rfl;refine ⟨u::fs,KatTups.cons ho hc hd (by rw [<-hu];simp) k,by simp [l],λv hv=>?_⟩;rcases zK.mp hv with rfl | hv
   ·exact ⟨x,t,e⟩
   ·exact f v hv
theorem uY {α:Type}(d:α)(l:List α):(List.range l.length).map (λi=>l.getD i d)=l:=by
 apply List.ext_getElem
 ·simp
 ·intro i h1 h2;simp [List.getD,h2]
theorem gU:∀ (ps:List (Addr×List Int)),Vals (ps.map λa=>V.ref a.1) (ps.map λa=>Value.ref a.1)
 | []=>.nil
 | _::ps=>.cons rfl (gU ps)
theorem kG:dc X (.builtin "sorted") (λxs H Q=>∃ p,∃ ps:List (Addr×List Int),xs=[.ref p]/\aG X.K H p (ps.map λa=>V.ref a.1)/\ps.length < 64/\(∀ a∈ps,H a.1=some (.tup (a.2.map V.int))/\a.2≠[]) /\
  ∀ l qs,H l=none->List.Perm qs ps->qs.Pairwise (λa b=>lx b.2 a.2=false)->Q (.ref l) (upd H l (.lst (qs.map λa=>V.ref a.1)))):=by
 intro af s σ H xs us Q I r h;obtain ⟨p,ps,rfl,hq,h64,eV,q⟩:=h;obtain ⟨u,rfl,rx⟩:=vals1 r;cases rx;obtain ⟨ay,r',pl,hz⟩:=I.list hq;have ei:=lQ r';subst ei;have hlen:(ps.map λa=>Value.ref a.1).length=ps.length:=by simp
 by_cases h2:ps.length < 2
 ·refine ni pl.isList (by omega) ?_;have sz:((s.heap.push (seqObj "list" #[] 0)).update s.heap.objs.size (Obj.mapSeq (·++(ps.map λa=>Value.ref a.1).toArray))).objs.size=s.heap.objs.size + 1:=by rw [Heap.size_update,size_push']
  have kp:∀ b o,s.heap.get? b=some o->(sortedAll s.heap (ps.map λa=>Value.ref a.1) (ps.map λa=>Value.ref a.1).toArray).get? b=some o:=λb o e=>by
   have lb:b < s.heap.objs.size:=Heap.lt_size e;unfold sortedAll sortedHeap;rw [Heap.get?_update_ne _ _ _ _ (zW (yy lb))];refine Heap.get?_push_of_some _ (Heap.get?_push_of_some _ ?_);rw [Heap.get?_update_ne _ _ _ _ (zW (yy lb))];refine Heap.get?_push_of_some _ ?_;rw [Heap.get?_update_ne _ _ _ _ (zW lb)];exact Heap.get?_push_of_some _ e
  obtain ⟨c,ec⟩:∃ c,(sortedAll s.heap (ps.map λa=>Value.ref a.1) (ps.map λa=>Value.ref a.1).toArray).get? (s.heap.objs.size + 1)=some (seqObj "list" (ps.map λa=>Value.ref a.1).toArray c):=by
   have e0:=Heap.get?_push_size ((s.heap.push (seqObj "list" #[] 0)).update s.heap.objs.size (Obj.mapSeq (·++(ps.map λa=>Value.ref a.1).toArray))) (o:=seqObj "list" (ps.map λa=>Value.ref a.1).toArray 0) rfl;rw [sz] at e0;unfold sortedAll sortedHeap;have e1:=get?_update_seq e0 (λ_=>(#[]:Array Value));exact ⟨_,get?_update_seq (Heap.get?_push_of_some _ (Heap.get?_push_of_some _ e1)) _⟩
  refine ⟨.ref (s.heap.objs.size + 1),_,I.laid (t':=s.toks) kp (yC _) (show aW X.prog X.w _ _ _ (.lst (ps.map λa=>V.ref a.1)) from ⟨hz,_,c,r',ec⟩),rfl,q _ ps (I.aY.fresh (yC _)) (List.Perm.refl _) ?_⟩
  match ps,h2 with
  | [],_=>exact .nil
  | [_],_=>exact List.pairwise_singleton _ _
 ·obtain ⟨m,F⟩:=I.fr;refine kat_sorted F (j6 (g:=X.base) (h:=s.heap)) pl.isList (by omega) (by omega) λD e1 h' F' N' lt=>?_;have keep:∀ b o,b≠X.env.locals->s.heap.get? b=some o->h'.get? b=some o:=λb o hb e=>by
   cases q:X.base.get? b with
   | some u=>
    have:=I.bk b u q;rw [e] at this;cases this;exact F'.keep b _ q
   | none=>exact (N' (b,o) (.tail _ (dm hb q e))).1
  have rowAt:∀ a∈ps,OY h' a.1 a.2/\a.2≠[]:=λa ha=>by
   obtain ⟨ht,hn⟩:=eV a ha;obtain ⟨_,ay,rv,o,e,c,n,d⟩:=I.aY a.1 _ ht;refine ⟨⟨o,_,n,keep a.1 o (λz=>?_) e,c,d,rv⟩,hn⟩;rw [z,I.free] at ht;cases ht
  obtain ⟨fs,kt,lf,hf⟩:=pR rowAt;refine kat_kind (T:=.type "int") kt (by omega) (λv hv=>?_) (by decide) ?_
  ·obtain ⟨i,t,rfl⟩:=hf v hv;exact Looks.now
  have n1:1<=(ps.map λa=>Value.ref a.1).length:=by omega
  refine fc.wp (c:=cf λi=>rk (ps.map (·.2)) ((ps.map (·.2)).getD i [])) (λi j C hi hj hC=>?_) (λpp hp=>?_) _ (Ng (f:=λi=>rk (ps.map (·.2)) ((ps.map (·.2)).getD i [])) n1)
  ·have e8:i < ps.length:=by omega
   have kh:j < ps.length:=by omega
   obtain ⟨⟨o,items,n,ho,hc,hd,hv⟩,hn⟩:=rowAt ps[i] (z6 e8);obtain ⟨⟨o',WN,n',pX,S1,N4,Xb⟩,Zj⟩:=rowAt ps[j] (z6 kh);unfold kas_ask;have ei:(ps.map λa=>Value.ref a.1).getD i Value.none=.ref ps[i].1:=by simp [e8]
   have ej:(ps.map λa=>Value.ref a.1).getD j Value.none=.ref ps[j].1:=by simp [kh]
   rw [ei,ej];refine kat_lt ho hd pX N4 (oK hv Xb (by simp) ?_);have e:cf (λi=>rk (ps.map (·.2)) ((ps.map (·.2)).getD i [])) i j=lx ps[i].2 ps[j].2:=by
    unfold cf;have e1:(ps.map (·.2)).getD i []=ps[i].2:=by simp [e8]
    have e2:(ps.map (·.2)).getD j []=ps[j].2:=by simp [kh]
    simp only [e1,e2];exact Oo (zQ.mpr ⟨ps[i],z6 e8,rfl⟩)
   rw [e] at hC;exact hC
  ·obtain ⟨pm,up⟩:=hp;refine KasFin.intro F' N' (UpdF.head λx hx=>zW (lt x hx)) λh2' c F2 N2=>?_;have pl:pp.toList.Perm (List.range ps.length):=by
    have:=pm.toList;rw [hlen] at this;simpa using this
   have eo:(pp.toList.map λi=>(ps.map λa=>Value.ref a.1).getD i Value.none)=(pp.toList.map λi=>ps.getD i (0,[])).map λa=>Value.ref a.1:=by
    rw [yF];refine List.map_congr_left λi hi=>?_;have e8:i < ps.length:=zn.mp (pl.mem_iff.mp hi);simp [e8]
   have perm:(pp.toList.map λi=>ps.getD i (0,[])).Perm ps:=by
    have:=pl.map λi=>ps.getD i (0,[]);rwa [uY] at this
   rw [eo] at N2;have hzz:((pp.toList.map λi=>ps.getD i (0,[])).map λa=>V.ref a.1).length<=sizeLine:=by
    rw [zA,perm.length_eq,sizeLine_eq];omega
   obtain ⟨I2,hD⟩:=I.KQ F F2 N2 lt (gU _) hzz;refine ⟨.ref D,_,I2,rfl,q D _ hD perm ?_⟩;rw [yU];intro i j hi hj pZ;simp only [zA,Array.length_toList] at hi hj;simp only [List.getElem_map,Array.getElem_toList];have hn:pp.size=ps.length:=by rw [pm.size];exact hlen
   have key:=up i j (xK pZ) (by omega);have a1:pp[i] < ps.length:=zn.mp (pl.mem_iff.mp (by simp));have a2:pp[j] < ps.length:=zn.mp (pl.mem_iff.mp (by simp));unfold g at'  at key;simp only [hi,hj,getElem?_pos,Option.getD_some] at key;have e1:(ps.map (·.2)).getD pp[i] []=ps[pp[i]].2:=by simp [a1]
   have e2:(ps.map (·.2)).getD pp[j] []=ps[pp[j]].2:=by simp [a2]
   rw [e1,e2] at key;have e3:ps.getD pp[i] (0,[])=ps[pp[i]]:=by simp [a1]
   have e4:ps.getD pp[j] (0,[])=ps[pp[j]]:=by simp [a2]
   rw [e3,e4];have:=Oo (rs:=ps.map (·.2)) (a:=ps[pp[j]].2) (b:=ps[pp[i]].2) (zQ.mpr ⟨_,z6 a2,rfl⟩);rw [<-this];simp only [decide_eq_false_iff_not];omega
end
end L2
namespace L2
open PySem PySem.Spec PyProof.Rows
def notStar:Expr->Bool
 | .Starred _ _=>false
 | _=>true
theorem iR {e:Expr}{es:List Expr}{env:Env}(h:notStar e=true):starEach (e::es) env=(false,eval e env)::starEach es env:=by cases e <;> first | rfl | cases h
@[irreducible] def Q3 (X:Cx) (es:List Expr) (t:TA):Prop:=PA X es t
theorem xO {X:Cx}{es:List Expr}{t:TA}(h:Q3 X es t):PA X es t:=by unfold Q3 at h;exact h
theorem Ou {X:Cx}{es:List Expr}{t:TA}(h:PA X es t):Q3 X es t:=by unfold Q3;exact h
theorem xY {X:Cx}:Q3 X [] rj:=Ou cg
theorem xQ {X:Cx}{e:Expr}{es:List Expr}{te:TE}{t:TA}(ha:PE X e te)(hr:Q3 X es t)(hn:notStar e=true):Q3 X (e::es) (jM te t):=Ou (Nz ha (xO hr) (iR hn))
@[irreducible] def qq (X:Cx) (es:List Stmt) (t:TS):Prop:=mX X es t
theorem xP {X:Cx}{es:List Stmt}{t:TS}(h:qq X es t):mX X es t:=by unfold qq at h;exact h
theorem Mr {X:Cx}{es:List Stmt}{t:TS}(h:mX X es t):qq X es t:=by unfold qq;exact h
theorem xp {X:Cx}{a:Stmt}{t:TS}(h:PS X a t):qq X [a] t:=Mr (Nq h)
theorem xl {X:Cx}{a b:Stmt}{rest:List Stmt}{t u:TS}(h:PS X a t)(hr:qq X (b::rest) u):qq X (a::b::rest) (qZ t u):=Mr (K5 h (xP hr))
section
variable {K:PySem.W.Frag}{a:Addr}{xs:List V}{n:Nat}{caps:List Nat}{g:TG}{tc:TT}{te:TE}{σ:St}{H:Hp}{Qf:Addr->Hp->List V->Prop}
theorem jF {J:It}(Pv:Nat->St->List V->Hp->Prop)(len:Nat)(h0:Pv 0 (gZ n caps σ) [] H)(hn:len<=1000)(hl:∀ i τ acc H,Pv i τ acc H->acc.length<=i)
  (hgo:∀ i τ acc H,i < len->Pv i τ acc H->J.go i H) (SD:∀ τ acc H,Pv len τ acc H->J.stop len H)
  (hs:∀ i τ acc H (C:St->List V->Hp->Prop),i < len->Pv i τ acc H->(∀ τ acc H,Pv (i + 1) τ acc H->C τ acc H)->∀ x H',J.qx i H x H'->g x τ H' fun cy H2=>tc cy H2 λb H3=>if b=true then te cy H3 λy H4=>C cy (acc++[y]) H4 else C cy acc H3)
  (hd:∀ τ acc H,Pv len τ acc H->∀ p,H p=none->Qf p H acc) :
  ∃ W:Nat->Nat->St->List V->Hp->Prop,(∃ m,W 0 m (gZ n caps σ) [] H)/\∀ i m τ acc H,W i m τ acc H ->
   (J.stop i H/\acc.length<=sizeLine/\∀ p,H p=none->Qf p H acc) \/
   (J.go i H/\acc.length < sizeLine/\∀ x H',J.qx i H x H'->g x τ H' fun cy H2=>tc cy H2 λb H3=>if b=true then te cy H3 λy H4=>∃ m',m' < m/\W (i + 1) m' cy (acc++[y]) H4 else ∃ m',m' < m/\W (i + 1) m' cy acc H3):=by
 have line:1001<=sizeLine:=by rw [sizeLine_eq];decide
 refine ⟨λi m τ acc H=>m=len - i/\i<=len/\Pv i τ acc H,⟨len,by simp,zc _,h0⟩,?_⟩;rintro i m τ acc H ⟨rfl,hi,p⟩;have q:=hl i τ acc H p;by_cases cN:i < len
 ·exact .inr ⟨hgo i τ acc H cN p,by omega,λx H' y=>hs i τ acc H (fun τ acc H=>∃ m',m' < len - i/\m'=len - (i + 1)/\i + 1<=len/\Pv (i + 1) τ acc H) cN p (fun τ acc H p'=>⟨len - (i + 1),by omega,rfl,cN,p'⟩) x H' y⟩
 ·have e:i=len:=by omega
  subst e;exact .inl ⟨SD τ acc H p,by omega,hd τ acc H p⟩
theorem kD (Pv:Nat->St->List V->Hp->Prop)(h0:Pv 0 (gZ n caps σ) [] H)(hn:xs.length<=1000)(hl:∀ i τ acc H,Pv i τ acc H->acc.length<=i/\bq K H a xs)
  (hs:∀ i x τ acc H (C:St->List V->Hp->Prop),xs[i]?=some x->Pv i τ acc H->(∀ τ acc H,Pv (i + 1) τ acc H->C τ acc H)->g x τ H fun cy H2=>tc cy H2 λb H3=>if b=true then te cy H3 λy H4=>C cy (acc++[y]) H4 else C cy acc H3)
  (hd:∀ τ acc H,Pv xs.length τ acc H->∀ p,H p=none->Qf p H acc) :
  ∃ W:Nat->Nat->St->List V->Hp->Prop,(∃ m,W 0 m (gZ n caps σ) [] H)/\∀ i m τ acc H,W i m τ acc H ->
   ((Og K a).stop i H/\acc.length<=sizeLine/\∀ p,H p=none->Qf p H acc) \/
   ((Og K a).go i H/\acc.length < sizeLine/\∀ x H',(Og K a).qx i H x H'->g x τ H' fun cy H2=>tc cy H2 λb H3=>if b=true then te cy H3 λy H4=>∃ m',m' < m/\W (i + 1) m' cy (acc++[y]) H4 else ∃ m',m' < m/\W (i + 1) m' cy acc H3):=
 jF (J:=Og K a) Pv xs.length h0 hn (λi τ acc H p=>(hl i τ acc H p).1) (λi τ acc H hi p=>⟨xs,xs[i],(hl i τ acc H p).2,by simp [hi]⟩) (fun τ acc H p=>⟨xs,(hl _ τ acc H p).2,zE _⟩)
  (λi τ acc H C hi p c x H' y=>by obtain ⟨e,y⟩:=y;subst e;exact hs i x τ acc _ C (y xs (hl i τ acc _ p).2) p c) hd
theorem cT (Pv:Nat->St->List V->Hp->Prop)(h0:Pv 0 (gZ n caps σ) [] H)(hn:xs.length<=1000)(hl:∀ i τ acc H,Pv i τ acc H->acc.length<=i/\aG K H a xs)
  (hs:∀ i x τ acc H (C:St->List V->Hp->Prop),xs[i]?=some x->Pv i τ acc H->(∀ τ acc H,Pv (i + 1) τ acc H->C τ acc H)->g x τ H fun cy H2=>tc cy H2 λb H3=>if b=true then te cy H3 λy H4=>C cy (acc++[y]) H4 else C cy acc H3)
  (hd:∀ τ acc H,Pv xs.length τ acc H->∀ p,H p=none->Qf p H acc) :
  ∃ W:Nat->Nat->St->List V->Hp->Prop,(∃ m,W 0 m (gZ n caps σ) [] H)/\∀ i m τ acc H,W i m τ acc H ->
   ((Oh K a).stop i H/\acc.length<=sizeLine/\∀ p,H p=none->Qf p H acc) \/
   ((Oh K a).go i H/\acc.length < sizeLine/\∀ x H',(Oh K a).qx i H x H'->g x τ H' fun cy H2=>tc cy H2 λb H3=>if b=true then te cy H3 λy H4=>∃ m',m' < m/\W (i + 1) m' cy (acc++[y]) H4 else ∃ m',m' < m/\W (i + 1) m' cy acc H3):=
 jF (J:=Oh K a) Pv xs.length h0 hn (λi τ acc H p=>(hl i τ acc H p).1) (λi τ acc H hi p=>⟨xs,xs[i],(hl i τ acc H p).2,by simp [hi]⟩) (fun τ acc H p=>⟨xs,(hl _ τ acc H p).2,zE _⟩)
  (λi τ acc H C hi p c x H' y=>by obtain ⟨e,y⟩:=y;subst e;exact hs i x τ acc _ C (y xs (hl i τ acc _ p).2) p c) hd
theorem mH {tb:TS}{D:Ends}(Pv:Nat->St->Hp->Prop)(h0:Pv 0 σ H)(hl:∀ i σ H,i<=xs.length->Pv i σ H->bq K H a xs)
  (hs:∀ i x q σ H,xs[i]?=some x->H q=none->Pv i σ H->g (.ref q) σ (upd H q (.tup [.int i,x])) fun gT H2=>tb (D.lp (Pv (i + 1))) gT H2) (hd:∀ σ H,Pv xs.length σ H->D.nx σ H) :
  ∃ W:Nat->Nat->St->Hp->Prop,(∃ m,W 0 m σ H)/\∀ i m σ H,W i m σ H ->
   ((MG K a).stop i H/\D.nx σ H)\/((MG K a).go i H/\∃ N:St->Hp->Prop,(∀ bu H',N bu H'->∃ m',m' < m/\W (i + 1) m' bu H')/\∀ x H',(MG K a).qx i H x H'->g x σ H' fun gT H2=>tb (D.lp N) gT H2):=by
 refine ⟨λi m σ H=>m=xs.length - i/\i<=xs.length/\Pv i σ H,⟨xs.length,by simp,zc _,h0⟩,?_⟩;rintro i m σ H ⟨rfl,hi,p⟩;have q:=hl i σ H hi p;by_cases cN:i < xs.length
 ·refine .inr ⟨⟨xs,xs[i],q,by simp [cN]⟩,Pv (i + 1),fun bu H' p'=>⟨xs.length - (i + 1),by omega,rfl,cN,p'⟩,λx H' y=>?_⟩;obtain ⟨q',x',hq,e1,e2,y⟩:=y;subst e1;subst e2;exact hs i x' q' σ _ (y xs q) hq p
 ·have e:i=xs.length:=by omega
  subst e;exact .inl ⟨⟨xs,q,zE _⟩,hd σ H p⟩
theorem fV {tb:TS}{D:Ends}(Pv:Nat->St->Hp->Prop)(h0:Pv 0 σ H)(hl:∀ i σ H,i<=xs.length->Pv i σ H->aG K H a xs)
  (hs:∀ i x q σ H,xs[i]?=some x->H q=none->Pv i σ H->g (.ref q) σ (upd H q (.tup [.int i,x])) fun gT H2=>tb (D.lp (Pv (i + 1))) gT H2) (hd:∀ σ H,Pv xs.length σ H->D.nx σ H) :
  ∃ W:Nat->Nat->St->Hp->Prop,(∃ m,W 0 m σ H)/\∀ i m σ H,W i m σ H ->
   ((MH K a).stop i H/\D.nx σ H)\/((MH K a).go i H/\∃ N:St->Hp->Prop,(∀ bu H',N bu H'->∃ m',m' < m/\W (i + 1) m' bu H')/\∀ x H',(MH K a).qx i H x H'->g x σ H' fun gT H2=>tb (D.lp N) gT H2):=by
 refine ⟨λi m σ H=>m=xs.length - i/\i<=xs.length/\Pv i σ H,⟨xs.length,by simp,zc _,h0⟩,?_⟩;rintro i m σ H ⟨rfl,hi,p⟩;have q:=hl i σ H hi p;by_cases cN:i < xs.length
 ·refine .inr ⟨⟨xs,xs[i],q,by simp [cN]⟩,Pv (i + 1),fun bu H' p'=>⟨xs.length - (i + 1),by omega,rfl,cN,p'⟩,λx H' y=>?_⟩;obtain ⟨q',x',hq,e1,e2,y⟩:=y;subst e1;subst e2;exact hs i x' q' σ _ (y xs q) hq p
 ·have e:i=xs.length:=by omega
  subst e;exact .inl ⟨⟨xs,q,zE _⟩,hd σ H p⟩
end
end L2
namespace Sm
open PySem L2 aR
def cL (p:Addr)(H H':Hp):Prop:=∀ b u,b≠p->H b=some u->H' b=some u
theorem cL.refl (p:Addr)(H:Hp):cL p H H:=λ_ _ _ h=>h
theorem cL.trans {p:Addr}{H H1 H2:Hp}(a:cL p H H1)(b:cL p H1 H2):cL p H H2:=λc u n h=>b c u n (a c u n h)
theorem cL.set {p:Addr}{H:Hp}{o:HO}:cL p H (upd H p o):=λb u n h=>by rw [xX n];exact h
theorem cL.new {p l:Addr}{H:Hp}{o:HO}(h:H l=none):cL p H (upd H l o):=λb u n e=>by rw [xX (xT e h)];exact e
def br (H:Hp)(p:Addr):Prop:=∃ a b c:Int,H p=some (.lst [.int a,.int b,.int c])
def Go (p:Addr)(H H':Hp):Prop:=cL p H H'/\br H' p
theorem Go.trans {p:Addr}{H H1 H2:Hp}(a:Go p H H1)(b:Go p H1 H2):Go p H H2:=⟨a.1.trans b.1,b.2⟩
theorem Go.refl {p:Addr}{H:Hp}(a:br H p):Go p H H:=⟨cL.refl p H,a⟩
theorem br.new {p l:Addr}{H:Hp}{o:HO}(a:br H p)(h:H l=none):br (upd H l o) p:=by obtain ⟨x,y,z,e⟩:=a;exact ⟨x,y,z,by rw [xX (xT e h)];exact e⟩
theorem br.ne {p l:Addr}{H:Hp}(a:br H p)(h:H l=none):l≠p:=by obtain ⟨x,y,z,e⟩:=a;exact (xT e h).symm
theorem Go.new {p l:Addr}{H H1:Hp}{o:HO}(a:Go p H H1)(h:H1 l=none):Go p H (upd H1 l o):=⟨a.1.trans (cL.new h),a.2.new h⟩
theorem br.tup {p t:Addr}{H:Hp}{xs:List V}(a:br H p)(h:H t=some (.tup xs)):t≠p:=by obtain ⟨x,y,z,e⟩:=a;exact bY h e (by intro z;cases z)
def bC (H H':Hp):Prop:=∀ b xs,H b=some (.tup xs)->H' b=some (.tup xs)
theorem bC.trans {H H1 H2:Hp}(a:bC H H1)(b:bC H1 H2):bC H H2:=λc u h=>b c u (a c u h)
theorem Go.aQ {p:Addr}{H H':Hp}(a:Go p H H')(h:br H p):bC H H':=λb xs e=>a.1 b _ (h.tup e) e
theorem bC.new {l:Addr}{H:Hp}{o:HO}(h:H l=none):bC H (upd H l o):=λb u e=>by rw [xX (xT e h)];exact e
theorem bC.set {l:Addr}{H:Hp}{xs:List V}{o:HO}(h:H l=some (.lst xs)):bC H (upd H l o):=λb u e=>by rw [xX (bY e h (by intro z;cases z))];exact e
theorem bC.same {H H':Hp}(h:au H H'):bC H H':=λb u e=>h b _ e
structure M4 where
 lo:Int
 hi:Int
 t:Int
 m:Int
def M4.vs (r:M4):List V:=[.int r.lo,.int r.hi,.int r.t,.int r.m]
def apart (a b:M4):Prop:=a.lo≠b.lo/\a.lo≠b.hi/\a.hi≠b.lo/\a.hi≠b.hi
structure Good (w:Int) (ms:List M4):Prop where
 iN:ms.length<=60
 each:∀ r∈ms,0<=r.lo/\r.lo < r.hi/\r.hi < w/\1<=r.t/\r.t<=1000000000/\1<=r.m/\r.m<=99
 order:ms.Pairwise λa b=>a.t < b.t\/(a.t=b.t/\a.lo < b.lo/\apart a b)
def jd (H:Hp)(ps:List (Addr×M4)):Prop:=∀ a∈ps,H a.1=some (.tup a.2.vs)
structure aL (H:Hp) (b:Addr) (aa:List Int) (tr tm:Addr) (ps:List (Addr×M4)):Prop where
 book:H b=some (.tup [.ref tr,.ref tm])
 aa:H tr=some (.tup (aa.map V.int))
 meets:H tm=some (.tup (ps.map λa=>V.ref a.1))
 rows:jd H ps
theorem jd.aQ {H H':Hp}{ps:List (Addr×M4)}(a:jd H ps)(t:bC H H'):jd H' ps:=λx hx=>t _ _ (a x hx)
theorem aL.aQ {H H':Hp}{b tr tm:Addr}{aa:List Int}{ps:List (Addr×M4)}(a:aL H b aa tr tm ps)(t:bC H H'):aL H' b aa tr tm ps:=
 ⟨t _ _ a.book,t _ _ a.aa,t _ _ a.meets,a.rows.aQ t⟩
def Nb (K:PySem.W.Frag):Sp:=λvs H Q _=>∃ (a:Addr) (ns:List Int) (k:Nat),vs=[.ref a,.int k]/\aG K H a (ns.map V.int)/\k < 1000/\∀ p H',H p=none->br H' p->au H H'->Q (.ref p) H'
def Ph:Sp:=λvs H Q _=>∃ p n,vs=[.ref p,.int n]/\0 < n/\n < 2 ^ 200/\br H p/\∀ d H',0<=d->d < n->Go p H H'->Q (.int d) H'
def RO:Sp:=λvs H Q _=>∃ p,vs=[.ref p]/\br H p/\∀ d H',0<=d->d<=1000000000->Go p H H'->Q (.int d) H'
def Na:Sp:=λvs H Q _=>∃ p,∃ n:Nat,vs=[.ref p,.int n]/\n<=1000/\br H p/\∀ (t:Addr) (aa:List Int) (H':Hp),Go p H H'->H' t=some (.tup (aa.map V.int))->aa.length=n->(∀ r∈aa,(0:Int)<=r/\r<=99)->Q (.ref t) H'
def Pj:Sp:=λvs H Q _=>∃ p,vs=[.ref p]/\br H p/\∀ d H',0<=d->d<=16000000->Go p H H'->Q (.int d) H'
def rH:Sp:=λvs H Q _=>∃ p,∃ w:Int,∃ n:Nat,vs=[.ref p,.int w,.int n]/\n<=60/\w < 1000/\(n=0\/2<=w)/\br H p /\
 ∀ (t:Addr) (ps:List (Addr×M4)) (H':Hp),Go p H H'->H' t=some (.tup (ps.map λa=>V.ref a.1))->jd H' ps->Good w (ps.map (·.2))->ps.length=n->Q (.ref t) H'
def Pn:Sp:=λvs H Q _=>∃ p,∃ a:Int,∃ n:Nat,vs=[.ref p,.int a,.int n]/\1<=a/\a<=100/\n<=60/\br H p /\
 ∀ (b:Addr) (aa:List Int) (tr tm:Addr) (ps:List (Addr×M4)) (H':Hp),Go p H H'->aL H' b aa tr tm ps->1<=aa.length->(aa.length:Int)<=a->(∀ r∈aa,(0:Int)<=r/\r<=99)->Good aa.length (ps.map (·.2))->ps.length<=n->Q (.ref b) H'
theorem cY {c A B:Prop}[Decidable c](h1:c->A)(h2:¬ c->B):if decide c=true then A else B:=by
 by_cases h:c
 ·rw [if_pos (decide_eq_true h)];exact h1 h
 ·rw [if_neg (by simpa using h)];exact h2 h
theorem az {c:Bool}{A B:Prop}(hc:c=false)(h:B):if c=true then A else B:=by rw [if_neg (by rw [hc];exact zM)];exact h
theorem aT {c:Bool}{A B:Prop}(hc:c=true)(h:A):if c=true then A else B:=by rw [if_pos hc];exact h
theorem pU {c:Bool}{A B:Prop}(h1:c=true->A)(h2:c=false->B):if c=true then A else B:=by
 cases c with
 | true=>exact h1 rfl
 | false=>exact h2 rfl
theorem Lz {c A B:Prop}[Decidable c](hc:c)(h:B):if (!decide c)=true then A else B:=Sn hc h
theorem xU {H:Hp}{p:Addr}{o:HO}(h:H p=none):au H (upd H p o):=λb u e=>by
 rw [xX (xT e h)];exact e
def M4.row (r:M4):List Int:=[r.t,r.lo,r.hi,r.m]
structure Q8 (w Oj:Int) (bs:List Int) (fs:List (Addr×M4)):Prop where
 each:∀ a∈fs,0<=a.2.lo/\a.2.lo < a.2.hi/\a.2.hi < w/\1<=a.2.t/\a.2.t<=Oj/\1<=a.2.m/\a.2.m<=99
 pw:fs.Pairwise λa b=>a.2.t=b.2.t->apart a.2 b.2
 bz:∀ a∈fs,a.2.t=Oj->a.2.lo∈bs/\a.2.hi∈bs
theorem Q8.step {w wh gap one other m:Int}{bs bs':List Int}{fs:List (Addr×M4)}{a:Addr}(F:Q8 w wh bs fs)(h1:1<=wh)(g0:0<=gap)(o0:0<=one)(o1:one < w)(p0:0<=other)(p1:other < w)(ne:one≠other)
  (m0:1<=m) (m1:m<=99) (hg:gap=0->one ∉ bs/\other ∉ bs) (hb:∀ x∈bs,gap=0->x∈bs') (iZ:one∈bs') (nM:other∈bs') :
  Q8 w (wh + gap) bs' (fs++[(a,⟨if other < one then other else one,if other > one then other else one,wh + gap,m⟩)]):=by
 refine ⟨λb hb=>?_,?_,λb hm e=>?_⟩
 ·rcases zT.mp hb with h | h
  ·obtain ⟨a1,a2,a3,a4,a5,a6,a7⟩:=F.each b h;exact ⟨a1,a2,a3,a4,by omega,a6,a7⟩
  ·cases zP.mp h;by_cases c:other < one
   ·rw [if_pos c,if_neg (by omega)];exact ⟨p0,c,o1,by show 1<=wh + gap;omega,zx _,m0,m1⟩
   ·rw [if_neg c,if_pos (by omega)];exact ⟨o0,by show one < other;omega,p1,by show 1<=wh + gap;omega,zx _,m0,m1⟩
 ·rw [List.pairwise_append];refine ⟨F.pw,List.pairwise_singleton _ _,λb hb c hc e=>?_⟩;cases zP.mp hc;have e':b.2.t=wh + gap:=e;obtain ⟨a1,a2,a3,a4,a5,a6,a7⟩:=F.each b hb;have g:gap=0:=by omega
  obtain ⟨x1,x2⟩:=F.bz b hb (by omega);obtain ⟨n1,n2⟩:=hg g;have q1:b.2.lo≠one:=λz=>n1 (z ▸ x1);have q2:b.2.lo≠other:=λz=>n2 (z ▸ x1);have q3:b.2.hi≠one:=λz=>n1 (z ▸ x2);have q4:b.2.hi≠other:=λz=>n2 (z ▸ x2);unfold apart;dsimp only;by_cases c:other < one
  ·rw [if_pos c,if_neg (by omega)];exact ⟨q2,q1,q4,q3⟩
  ·rw [if_neg c,if_pos (by omega)];exact ⟨q1,q2,q3,q4⟩
 ·rcases zT.mp hm with h | h
  ·obtain ⟨a1,a2,a3,a4,a5,a6,a7⟩:=F.each b h;obtain ⟨x1,x2⟩:=F.bz b h (by omega);exact ⟨hb _ x1 (by omega),hb _ x2 (by omega)⟩
  ·cases zP.mp h;by_cases c:other < one
   ·rw [if_pos c,if_neg (by omega)];exact ⟨nM,iZ⟩
   ·rw [if_neg c,if_pos (by omega)];exact ⟨iZ,nM⟩
def M4.iA (l:Int)(r:M4):M4:=⟨r.lo,r.hi,r.t + l,r.m⟩
theorem Q8.good {w wh l:Int}{bs:List Int}{fs qs:List (Addr×M4)}(F:Q8 w wh bs fs)(n:fs.length<=60)(l0:0<=l)(l1:fs≠[]->wh + l<=1000000000)(p:qs.Perm fs)(s:qs.Pairwise λa b=>lx b.2.row a.2.row=false) :
  Good w (qs.map λa=>a.2.iA l):=by
 refine ⟨by rw [zA,p.length_eq];exact n,λr hr=>?_,?_⟩
 ·obtain ⟨a,ha,rfl⟩:=zQ.mp hr;have hm:=p.mem_iff.mp ha;obtain ⟨a1,a2,a3,a4,a5,a6,a7⟩:=F.each a hm;have:=l1 (List.ne_nil_of_mem hm);unfold M4.iA;exact ⟨a1,a2,a3,by show 1<=a.2.t + l;omega,by show a.2.t + l<=1000000000;omega,a6,a7⟩
 ·rw [yz];have ap:qs.Pairwise λa b=>a.2.t=b.2.t->apart a.2 b.2:=(List.Perm.pairwise_iff (λ{x y} h e=>by
   obtain ⟨a1,a2,a3,a4⟩:=h e.symm;exact ⟨a1.symm,a3.symm,a2.symm,a4.symm⟩) p).mpr F.pw
  refine (s.and ap).imp λ{a b} ⟨h1,h2⟩=>?_;unfold M4.iA;dsimp only;unfold M4.row lx at h1;by_cases e:a.2.t=b.2.t
  ·have q:=h2 e;rw [if_pos e.symm] at h1;unfold lx at h1;rw [if_neg λz=>q.1 z.symm] at h1;simp only [decide_eq_false_iff_not] at h1;refine .inr ⟨by omega,?_,q⟩;have:=q.1;omega
  ·rw [if_neg λz=>e z.symm] at h1;simp only [decide_eq_false_iff_not] at h1;exact .inl (by omega)
def O9 (r:List Int):M4:=⟨r.getD 1 0,r.getD 2 0,r.getD 0 0,r.getD 3 0⟩
theorem uX {fs:List (Addr×M4)}{qs:List (Addr×List Int)}(p:qs.Perm (fs.map λa=>(a.1,a.2.row)))(s:qs.Pairwise λa b=>lx b.2 a.2=false) :
  ∃ rs:List (Addr×M4),rs.Perm fs/\(rs.Pairwise λa b=>lx b.2.row a.2.row=false)/\qs=rs.map λa=>(a.1,a.2.row):=by
 have e:qs=(qs.map λa=>(a.1,O9 a.2)).map λa=>(a.1,a.2.row):=by
  rw [yF];refine (List.map_id qs).symm.trans (List.map_congr_left λx hx=>?_);obtain ⟨a,_,rfl⟩:=zQ.mp (p.mem_iff.mp hx);rfl
 refine ⟨qs.map λa=>(a.1,O9 a.2),?_,?_,e⟩
 ·have:=p.map λa=>(a.1,O9 a.2);rw [yF] at this;refine this.trans (.of_eq ?_);refine (List.map_congr_left λx _=>?_).trans (List.map_id fs);rfl
 ·rw [e,yz] at s;exact s
theorem mO (bs:List Int):(bs.map V.int).all bO=true:=by rw [xD];intro x hx;obtain ⟨b,_,rfl⟩:=zQ.mp hx;rfl
theorem pW {x:Int}{bs:List Int}:NT (.int x) (bs.map V.int)=decide (x∈bs):=by
 unfold NT;induction bs with
 | nil=>rfl
 | cons b bs ih=>
  rw [zf,yw,ih];by_cases h:x=b
  ·subst h;simp [qM]
  ·have h':¬ b=x:=λz=>h z.symm;simp [qM,h,h']
def UY (p lf:Addr)(w:Int)(n:Nat)(H:Hp)(i:Nat)(σ:St)(H3:Hp):Prop:=
 ∃ v6 v7 v8 v9 v10 wh lb bs,∃ fs:List (Addr×M4),σ=[some (.ref p),some (.int w),some (.int n),some (.ref lf),some (.int wh),some (.ref lb),v6,v7,v8,v9,v10,none] /\
  H3 lf=some (.lst (fs.map λa=>V.ref a.1))/\H3 lb=some (.lst (List.map V.int bs))/\lb≠lf/\lb≠p/\(∀ a∈fs,H3 a.1=some (.tup (a.2.row.map V.int)))/\Q8 w wh bs fs/\fs.length=i/\bs.length<=2 * i/\1<=wh/\wh<=10000000 + 16000000 * i/\Go p H H3
theorem UY.step {p lf lb t:Addr}{w wh gap one other m:Int}{n i:Nat}{H Hx:Hp}{bs bs':List Int}{fs:List (Addr×M4)}{v6 v7 v8 v9 v10:Option V}(MN:lf≠p)(LH:H lf=none)
  (F:Q8 w wh bs fs) (Ls:fs.length=i) (P1:bs'.length<=2 * i + 2) (T4:1<=wh) (VZ:wh<=10000000 + 16000000 * i) (hf:Hx lf=some (.lst (fs.map λa=>V.ref a.1))) (hb:Hx lb=some (.lst (List.map V.int bs'))) (nb:lb≠lf) (R9:lb≠p)
  (rows:∀ a∈fs,Hx a.1=some (.tup (a.2.row.map V.int))) (go:Go p H Hx) (ht:Hx t=none)
  (g0:0<=gap) (g1:gap<=16000000) (o0:0<=one) (o1:one < w) (p0:0<=other) (p1:other < w) (ne:one≠other) (m0:1<=m) (m1:m<=99) (hg:gap=0->one ∉ bs/\other ∉ bs) (N5:∀ x∈bs,gap=0->x∈bs') (iZ:one∈bs') (nM:other∈bs') :
  UY p lf w n H (i + 1) [some (.ref p),some (.int w),some (.int n),some (.ref lf),some (.int (wh + gap)),some (.ref lb),v6,v7,v8,v9,v10,none]
   (upd (upd Hx t (.tup [.int (wh + gap),.int (if other < one then other else one),.int (if other > one then other else one),.int m])) lf (.lst ((fs.map λa=>V.ref a.1)++[.ref t]))):=by
 have ntf:t≠lf:=(xT hf ht).symm;refine ⟨v6,v7,v8,v9,v10,wh + gap,lb,bs',fs++[(t,⟨if other < one then other else one,if other > one then other else one,wh + gap,m⟩)],rfl,by rw [xS,zG];rfl,?_,nb,R9,λa ha=>?_,F.step T4 g0 o0 o1 p0 p1 ne m0 m1 hg N5 iZ nM,by rw [zN,Ls];rfl,by omega,by omega,by omega,λb u nb e=>?_,?_⟩
 ·rw [xX nb,xX (xT hb ht)];exact hb
 ·rcases zT.mp ha with h | h
  ·have:=rows a h;rw [xX (bY this hf (by intro z;cases z)),xX (xT this ht)];exact this
  ·cases zP.mp h;rw [xX ntf,xS];rfl
 ·rw [xX (xT e LH),xX (xT (go.1 b u nb e) ht)];exact go.1 b u nb e
 ·have:=go.2.new (o:=.tup [.int (wh + gap),.int (if other < one then other else one),.int (if other > one then other else one),.int m]) ht;obtain ⟨x,y,z,e⟩:=this;exact ⟨x,y,z,by rw [xX MN.symm];exact e⟩
theorem PF {one x w:Int}(o0:0<=one)(o1:one < w)(x0:0<=x)(x1:x < w - 1):0<=(one + 1 + x) % w/\(one + 1 + x) % w < w/\one≠(one + 1 + x) % w:=by
 refine ⟨yr _ (by omega),yc _ (by omega),?_⟩;by_cases h:one + 1 + x < w
 ·rw [Int.emod_eq_of_lt (by omega) h];omega
 ·have e:(one + 1 + x) % w=(one + 1 + x - w) % w:=by
   have:one + 1 + x=(one + 1 + x - w) + w:=by omega
   rw [this,Int.add_emod_right];congr 1;omega
  rw [e,Int.emod_eq_of_lt (by omega) (by omega)];omega
theorem Go.same {p:Addr}{H H1 H2:Hp}(a:Go p H H1)(s:au H1 H2):Go p H H2:=⟨λb u n e=>s b u (a.1 b u n e),by obtain ⟨x,y,z,e⟩:=a.2;exact ⟨x,y,z,s _ _ e⟩⟩
theorem xz {α:Type}{f:α->V}{l:List α}{i:Nat}{x:V}(h:(l.map f)[i]?=some x):∃ r,l[i]?=some r/\x=f r:=by
 rw [zD] at h;cases e:l[i]? with
 | none=>rw [e] at h;cases h
 | some r=>rw [e] at h;exact ⟨r,rfl,(Option.some.inj h).symm⟩
theorem wM {α:Type}{l:List α}{i:Nat}{r:α}(h:l[i]?=some r):l.take (i + 1)=l.take i++[r]:=by rw [List.take_add_one,h];rfl
theorem au.put {l:Addr}{H H':Hp}{o:HO}(h:H l=none)(s:au H H'):au H (upd H' l o):=λb u e=>by rw [xX (xT e h)];exact s b u e
theorem aL.same {H H':Hp}{b tr tm:Addr}{aa:List Int}{ps:List (Addr×M4)}(a:aL H b aa tr tm ps)(t:au H H'):aL H' b aa tr tm ps:=a.aQ (bC.same t)
theorem fQ {H:Hp}{l:Addr}{xs:List V}(h:H l=some (.lst xs)):kX H (.ref l)=some "list" := by simp only [kX,h]
theorem N7 {xs:List V}(h:xs.length=4):∃ a b c d,xs=[a,b,c,d]:=by rcases xs with _ | ⟨a,_ | ⟨b,_ | ⟨c,_ | ⟨d,_ | ⟨e,xs⟩⟩⟩⟩⟩ <;> first | exact ⟨_,_,_,_,rfl⟩ | (simp only [ze,yL] at h;omega)
def tE:Sp:=λvs H Q _=>∃ x t,vs=[x]/\kX H x=some t/\Q (.bl (t == "int")) H
def oF (lo hi:Int):V->Bool
 | .int i=>decide (lo<=i) && decide (i<=hi)
 | _=>false
def KH:Sp:=λvs H Q _=>∃ x t lo hi,vs=[x,.int lo,.int hi]/\kX H x=some t/\Q (.bl (oF lo hi x)) H
def Pg:Sp:=λvs H Q _=>∃ x t,vs=[x]/\kX H x=some t/\Q (.bl (oF 0 1000000000 x)) H
theorem M1 {H:Hp}{x:V}(h:kX H x=some "int"):∃ i,x=.int i:=by
 cases x with
 | int i=>exact ⟨i,rfl⟩
 | ref a=>
  unfold kX at h;dsimp only at h;split at h <;> simp at h
 | _=>simp [kX] at h
theorem Qg {H:Hp}{x:V}{t:String}{lo hi:Int}(h:kX H x=some t)(n:¬ t = "int"):oF lo hi x=false:=by
 cases x with
 | int i=>simp [kX] at h;exact absurd h.symm n
 | _=>rfl
def XR (w:Int)(r:M4):Bool:=decide (r.lo=w) || decide (r.hi=w)
def numsTo (ms:List M4)(w:Int):Nat->List Int
 | 0=>[]
 | i + 1=>numsTo ms w i++(if (ms[i]?).any (XR w)=true then [(i:Int)] else [])
theorem NS {w a b:Int}:NT (.int w) [.int a,.int b]=(decide (a=w) || decide (b=w)):=by simp only [NT,qM,yw,List.any_nil,Bool.or_false];rfl
def cnt (ms:List M4)(t:Int):Nat:=(ms.filter λr=>decide (r.t<=t)).length
theorem iE {ms:List M4}{t:Int}{i:Nat}{r:M4}(h:ms[i]?=some r):cnt (ms.take (i + 1)) t=cnt (ms.take i) t + (if r.t<=t then 1 else 0):=by unfold cnt;rw [wM h,List.filter_append,zN];congr 1;by_cases c:r.t<=t <;> simp [c]
def o8:Sp:=λvs H Q _=>∃ b t aa tr tm ps,vs=[.ref b,.int t]/\aL H b aa tr tm ps/\ps.length<=1000/\∀ H',au H H'->Q (.int (cnt (ps.map (·.2)) t)) H'
def KJ:Sp:=λvs H Q _=>∃ p b j aa tr tm ps,vs=[.ref p,.ref b,.int j]/\(j=0\/j=1)/\aL H b aa tr tm ps/\Good aa.length (ps.map (·.2))/\br H p/\∀ d H',0<=d->d<=1000000000->Go p H H'->Q (.int d) H'
theorem Good.len {w:Int}{ps:List (Addr×M4)}(g:Good w (ps.map (·.2))):ps.length<=60:=by simpa using g.iN
theorem Good.at {w:Int}{ps:List (Addr×M4)}(g:Good w (ps.map (·.2))){r:Addr×M4}(h:r∈ps):0<=r.2.lo/\r.2.lo < r.2.hi/\r.2.hi < w/\1<=r.2.t/\r.2.t<=1000000000/\1<=r.2.m/\r.2.m<=99:=g.each _ (zQ.mpr ⟨r,h,rfl⟩)
end Sm
namespace L2
open PySem PySem.Spec PyProof.Rows
end L2
namespace fK
open PySem
theorem kL {xs:Array Nat}{j:Nat}(so:xs.toList.Pairwise (· < ·)):∀ (fuel lo hi:Nat),hi - lo<=fuel->lo<=hi->hi<=xs.size->(∀ i (h:i < xs.size),i < lo->xs[i] < j)->(∀ i (h:i < xs.size),hi<=i->j<=xs[i]) ->
  SetTable.below.go xs j fuel lo hi<=xs.size/\(∀ i (h:i < xs.size),i < SetTable.below.go xs j fuel lo hi->xs[i] < j)/\∀ i (h:i < xs.size),SetTable.below.go xs j fuel lo hi<=i->j<=xs[i]
 | 0,lo,hi,hf,h1,h2,hl,hh=>by
  have:lo=hi:=by omega
  subst this;unfold SetTable.below.go;exact ⟨h2,hl,hh⟩
 | fuel + 1,lo,hi,hf,h1,h2,hl,hh=>by
  unfold SetTable.below.go;have mono:∀ a b (ha:a < xs.size) (hb:b < xs.size),a < b->xs[a] < xs[b]:=λa b ha hb ab=>by
   have:=yU.mp so a b (by simpa using ha) (by simpa using hb) ab;simpa using this
  by_cases c:lo < hi
  ·rw [if_pos c];dsimp only;have hm:(lo + hi) / 2 < xs.size:=by omega
   have e:xs.getD ((lo + hi) / 2) j=xs[(lo + hi) / 2]:=by simp [Array.getD,hm]
   rw [e];by_cases d:xs[(lo + hi) / 2] < j
   ·rw [if_pos d];refine kL so fuel _ _ (by omega) (by omega) h2 (λi h e8=>?_) hh;by_cases q:i=(lo + hi) / 2
    ·subst q;exact d
    ·exact Nat.lt_trans (mono i ((lo + hi) / 2) h hm (by omega)) d
   ·rw [if_neg d];refine kL so fuel _ _ (by omega) (by omega) (by omega) hl (λi h e8=>?_);by_cases q:i=(lo + hi) / 2
    ·subst q;omega
    ·have:=mono ((lo + hi) / 2) i hm h (by omega);omega
  ·rw [if_neg c];have:lo=hi:=by omega
   subst this;exact ⟨h2,hl,hh⟩
theorem kK {xs:Array Nat}{j:Nat}(so:xs.toList.Pairwise (· < ·)):SetTable.below xs j<=xs.size/\(∀ i (h:i < xs.size),i < SetTable.below xs j->xs[i] < j)/\∀ i (h:i < xs.size),SetTable.below xs j<=i->j<=xs[i]:=
 kL so _ _ _ (by omega) (by omega) (zE _) (λ_ _ h=>absurd h (zd _)) (λi h hi=>absurd h (by omega))
theorem below_at {xs:Array Nat}{j i:Nat}(so:xs.toList.Pairwise (· < ·))(h:xs[i]?=some j):SetTable.below xs j=i:=by
 obtain ⟨hi,e⟩:=Array.getElem?_eq_some_iff.mp h;obtain ⟨b1,b2,b3⟩:=kK (j:=j) so;rcases Nat.lt_trichotomy (SetTable.below xs j) i with c | c | c
 ·have hb:SetTable.below xs j < xs.size:=by omega
  have:=b3 _ hb (zE _);have m:=yU.mp so (SetTable.below xs j) i (by simpa using hb) (by simpa using hi) c;simp only [Array.getElem_toList] at m;omega
 ·exact c
 ·have:=b2 i hi c;omega
theorem iS {t:SetTable}{j i:Nat}(so:t.place.toList.Pairwise (· < ·))(h:t.place[i]?=some j):t.slot j=.live i:=by unfold SetTable.slot;dsimp only;rw [below_at so h,h];simp
theorem rP {t:SetTable}{j:Nat}(nd:t.dummies=#[])(h:j ∉ t.place.toList):t.slot j=.empty:=by
 unfold SetTable.slot;dsimp only;rw [if_neg,if_neg]
 ·rw [nd];unfold SetTable.has;simp
 ·intro c;have:t.place[SetTable.below t.place j]?=some j:=by simpa using c
  exact h (by simpa using Array.mem_of_getElem? this)
def vZ (m:Nat)(p:SetTable.Probe):SetTable.Probe:=
 if p.more > 0 then { p with j:=p.j + 1,more:=p.more - 1 } else
 { p with j:=(SetTable.leap m p.i p.perturb).1,more:=SetTable.runEnd m (SetTable.leap m p.i p.perturb).1 - (SetTable.leap m p.i p.perturb).1,i:=(SetTable.leap m p.i p.perturb).1,perturb:=(SetTable.leap m p.i p.perturb).2 }
theorem kN (t:SetTable)(p:SetTable.Probe):t.advance p=vZ t.mask p:=rfl
def run (m i u:Nat):SetTable.Probe:={ j:=i,more:=SetTable.runEnd m i - i,i,perturb:=u,dummy:=none }
def start (m:Nat)(h:Int):SetTable.Probe:=run m (SetTable.bits h % (m + 1)) (SetTable.bits h)
def ad (m:Nat):Nat->SetTable.Probe->SetTable.Probe
 | 0,p=>p
 | n + 1,p=>ad m n (vZ m p)
theorem iJ (m n:Nat)(p:SetTable.Probe):ad m (n + 1) p=vZ m (ad m n p):=by
 induction n generalizing p with
 | zero=>rfl
 | succ n ih=>exact ih (vZ m p)
theorem My (m a b:Nat)(p:SetTable.Probe):ad m (a + b) p=ad m b (ad m a p):=by
 induction a generalizing p with
 | zero=>rw [Nat.zero_add];rfl
 | succ a ih=>rw [Nat.succ_add];exact ih (vZ m p)
theorem vQ {m:Nat}{p:SetTable.Probe}:(vZ m p).dummy=p.dummy:=by unfold vZ;split <;> rfl
theorem qo {m:Nat}:∀ {n:Nat}{p:SetTable.Probe},(ad m n p).dummy=p.dummy
 | 0,_=>rfl
 | n + 1,p=>(qo (n:=n)).trans vQ
def at' (m:Nat)(h:Int)(n:Nat):Nat:=(ad m n (start m h)).j
theorem fX {m i u:Nat}:∀ k,k<=SetTable.runEnd m i - i->ad m k (run m i u)={ j:=i + k,more:=SetTable.runEnd m i - i - k,i,perturb:=u,dummy:=none }
 | 0,_=>rfl
 | k + 1,h=>by
  rw [iJ,fX k (by omega)];unfold vZ;dsimp only;rw [if_pos (by omega)];rfl
theorem jr {m i u:Nat}:ad m (SetTable.runEnd m i - i + 1) (run m i u)=run m ((i * 5 + 1 + u / 32) % (m + 1)) (u / 32):=by rw [iJ,fX _ (zE _)];unfold vZ;dsimp only;rw [if_neg (by omega)];rfl
theorem dJ {m i:Nat}:SetTable.runEnd m i - i<=9/\i<=SetTable.runEnd m i/\(i<=m->SetTable.runEnd m i<=m):=by unfold SetTable.runEnd;split <;> omega
def runs (m:Nat):Nat->Nat->Nat->Nat×Nat
 | 0,i,u=>(i,u)
 | r + 1,i,u=>runs m r ((i * 5 + 1 + u / 32) % (m + 1)) (u / 32)
theorem tK {m:Nat}:∀ (r i u:Nat),∃ c,c<=10 * r/\ad m c (run m i u)=run m (runs m r i u).1 (runs m r i u).2
 | 0,i,u=>⟨0,zE _,rfl⟩
 | r + 1,i,u=>by
  obtain ⟨c,hc,e⟩:=tK r ((i * 5 + 1 + u / 32) % (m + 1)) (u / 32);refine ⟨SetTable.runEnd m i - i + 1 + c,?_,?_⟩
  ·have:=(dJ (m:=m) (i:=i)).1;omega
  ·rw [My,jr,e];rfl
theorem o9 {m:Nat}:∀ (a b i u:Nat),runs m (a + b) i u=runs m b (runs m a i u).1 (runs m a i u).2
 | 0,b,i,u=>by rw [Nat.zero_add];rfl
 | a + 1,b,i,u=>by rw [Nat.succ_add];exact o9 a b _ _
theorem ic {m:Nat}:∀ (r i u:Nat),(runs m r i u).2=u / 32 ^ r
 | 0,i,u=>by simp [runs]
 | r + 1,i,u=>by
  show (runs m r _ (u / 32)).2=_;rw [ic r,Nat.div_div_eq_div_mul,Nat.pow_succ,Nat.mul_comm]
theorem jQ {m:Nat}:∀ (r i u:Nat),i<=m->(runs m r i u).1<=m
 | 0,i,u,h=>h
 | r + 1,i,u,h=>jQ r _ _ (yT.mp (Nat.mod_lt _ (by omega)))
def f5 (m:Nat):Nat->Nat->Nat
 | 0,i=>i
 | s + 1,i=>f5 m s ((i * 5 + 1) % (m + 1))
theorem tH {m:Nat}:∀ (s i:Nat),(runs m s i 0).1=f5 m s i
 | 0,i=>rfl
 | s + 1,i=>by
  show (runs m s ((i * 5 + 1 + 0 / 32) % (m + 1)) (0 / 32)).1=f5 m s ((i * 5 + 1) % (m + 1));rw [Nat.zero_div,Nat.add_zero];exact tH s _
theorem nR {m:Nat}:∀ (a b i:Nat),f5 m (a + b) i=f5 m b (f5 m a i)
 | 0,b,i=>by rw [Nat.zero_add];rfl
 | a + 1,b,i=>by rw [Nat.succ_add];exact nR a b _
def oh (m:Nat):Nat->Nat->Nat->Nat
 | 0,_,acc=>acc
 | s + 1,i,acc=>oh m s ((i * 5 + 1) % (m + 1)) (acc ||| (2 ^ i))
theorem jq {m j:Nat}:∀ (s i acc:Nat),(oh m s i acc).testBit j=true->acc.testBit j=true\/∃ a,a < s/\f5 m a i=j
 | 0,i,acc,h=>.inl h
 | s + 1,i,acc,h=>by
  rcases jq s _ _ h with h | ⟨a,ha,e⟩
  ·rw [zo,yh] at h;rcases h with h | h
   ·exact .inl h
   ·rw [zq] at h;exact .inr ⟨0,by omega,of_decide_eq_true h⟩
  ·exact .inr ⟨a + 1,by omega,e⟩
def Mask (m:Nat):Prop:=m=7\/m=31\/m=127\/m=511\/m=2047\/m=8191
theorem QO {m:Nat}(hm:Mask m):f5 m (m + 1) 0=0/\∀ j,j<=m->∃ a,a<=m/\f5 m a 0=j:=by
 have key:f5 m (m + 1) 0=0/\oh m (m + 1) 0 0=2 ^ (m + 1) - 1:=by
  rcases hm with rfl | rfl | rfl | rfl | rfl | rfl <;> constructor <;> decide +kernel
 refine ⟨key.1,λj hj=>?_⟩;have:(oh m (m + 1) 0 0).testBit j=true:=by
  rw [key.2,Nat.testBit_two_pow_sub_one];exact decide_eq_true (by omega)
 rcases jq _ _ _ this with h | ⟨a,ha,e⟩
 ·simp at h
 ·exact ⟨a,by omega,e⟩
theorem cover {m i j:Nat}(hm:Mask m)(hi:i<=m)(hj:j<=m):∃ s,s<=m/\f5 m s i=j:=by
 obtain ⟨z,all⟩:=QO hm;obtain ⟨a,ha,rfl⟩:=all i hi;obtain ⟨b,hb,rfl⟩:=all j hj;by_cases c:a<=b
 ·exact ⟨b - a,by omega,by rw [<-nR];congr 1;omega⟩
 ·refine ⟨b + (m + 1) - a,by omega,?_⟩;rw [<-nR,show a + (b + (m + 1) - a)=(m + 1) + b from by omega,nR,z]
theorem reach {m i u j:Nat}(hm:Mask m)(hi:i<=m)(hu:u < 2 ^ 64)(hj:j<=m):∃ r,r<=m + 13/\(runs m r i u).1=j:=by
 have p0:(runs m 13 i u).2=0:=by
  rw [ic];exact Nat.div_eq_of_lt (zS hu (by decide))
 obtain ⟨s,hs,e⟩:=cover hm (jQ 13 i u hi) hj;refine ⟨13 + s,by omega,?_⟩;rw [o9,p0,tH,e]
theorem uy (h:Int):SetTable.bits h < 2 ^ 64:=by
 unfold SetTable.bits;have a:=yr h (show (2 ^ 64:Int)≠0 by decide);have b:=yc h (show (0:Int) < 2 ^ 64 by decide);have c:((h % 2 ^ 64).toNat:Int)=h % 2 ^ 64:=yS a;have d:((2 ^ 64:Nat):Int)=(2:Int) ^ 64:=by decide
 omega
theorem K1 {m j:Nat}{h:Int}(hm:Mask m)(hj:j<=m):∃ n,n<=10 * (m + 13)/\at' m h n=j:=by obtain ⟨r,hr,e⟩:=reach (u:=SetTable.bits h) hm (yT.mp (Nat.mod_lt (SetTable.bits h) (show 0 < m + 1 by omega))) (uy h) hj;obtain ⟨c,hc,e2⟩:=tK (m:=m) r (SetTable.bits h % (m + 1)) (SetTable.bits h);refine ⟨c,by omega,?_⟩;unfold at' start;rw [e2,e];rfl
theorem least {P:Nat->Prop}:∀ n,P n->∃ k,k<=n/\P k/\∀ i,i < k->¬ P i:=by
 intro n;induction n using Nat.strongRecOn with
 | _ n ih=>
  intro h;by_cases c:∃ i,i < n/\P i
  ·obtain ⟨i,hi,pi⟩:=c;obtain ⟨k,hk,pk,al⟩:=ih i hi pi;exact ⟨k,by omega,pk,al⟩
  ·exact ⟨n,zE _,h,λi hi pi=>c ⟨i,hi,pi⟩⟩
theorem sL {m:Nat}{O:Nat->Prop}(h:Int)(hm:Mask m)(he:∃ j,j<=m/\¬ O j):∃ N,N<=10 * (m + 13)/\¬ O (at' m h N)/\∀ n,n < N->O (at' m h n):=by obtain ⟨j,hj,no⟩:=he;obtain ⟨n,hn,e⟩:=K1 (h:=h) hm hj;obtain ⟨k,hk,pk,al⟩:=least (P:=λn=>¬ O (at' m h n)) n (by rw [e];exact no);exact ⟨k,by omega,pk,λi hi=>Classical.byContradiction λc=>al i hi c⟩
theorem qm {m:Nat}{h:Int}:∀ n,at' m h n<=m:=by
 have key:∀ n,(ad m n (start m h)).j + (ad m n (start m h)).more<=m:=by
  have step:∀ p:SetTable.Probe,p.j + p.more<=m->(vZ m p).j + (vZ m p).more<=m:=λp hp=>by
   unfold vZ;split
   ·dsimp only;omega
   ·dsimp only;have l:(SetTable.leap m p.i p.perturb).1<=m:=yT.mp (Nat.mod_lt _ (by omega));have:=dJ (m:=m) (i:=(SetTable.leap m p.i p.perturb).1);have:=this.2.2 l;omega
  intro n;induction n with
  | zero=>
   show SetTable.bits h % (m + 1) + (SetTable.runEnd m (SetTable.bits h % (m + 1)) - SetTable.bits h % (m + 1))<=m;have l:SetTable.bits h % (m + 1)<=m:=yT.mp (Nat.mod_lt _ (by omega));have:=dJ (m:=m) (i:=SetTable.bits h % (m + 1));have:=this.2.2 l;omega
  | succ n ih=>rw [iJ];exact step _ ih
 intro n;have:=key n;unfold at';omega
end fK
namespace fK
open PySem
structure Tab (t:SetTable) (es:Array (Int×Value)):Prop where
 mask:Mask t.mask
 nd:t.dummies=#[]
 so:t.place.toList.Pairwise (· < ·)
 sz:t.place.size=es.size
 small:∀ j∈t.place.toList,j<=t.mask
 mj:es.size * 5 < t.mask * 3
 way:∀ i (h:i < es.size),∃ n,t.place[i]?=some (at' t.mask es[i].1 n)/\∀ n',n' < n->at' t.mask es[i].1 n'∈t.place.toList
theorem Tab.room {t:SetTable}{es:Array (Int×Value)}(T:Tab t es):es.size<=t.mask:=by have:=T.mj;omega
theorem Tab.fits {t:SetTable}{es:Array (Int×Value)}(T:Tab t es):t.fits es.size=true:=by unfold SetTable.fits SetTable.fill;have:=T.room;rw [T.sz,T.nd];simp;exact this
theorem Tab.odd {t:SetTable}{es:Array (Int×Value)}(T:Tab t es):t.gaveWay=false:=by unfold SetTable.gaveWay;rcases T.mask with h | h | h | h | h | h <;> rw [h] <;> rfl
theorem om:∀ (n:Nat) (l:List Nat),(∀ j,j < n->j∈l)->n<=l.length
 | 0,_,_=>zc _
 | n + 1,l,h=>by
  have:=om n (l.erase n) λj hj=>(List.mem_erase_of_ne (by omega)).mpr (h j (by omega));rw [List.length_erase_of_mem (h n (by omega))] at this;have:=List.length_pos_of_mem (h n (by omega));omega
theorem Lu {l:List Nat}{m:Nat}(h:l.length<=m):∃ j,j<=m/\j ∉ l:=by refine Classical.byContradiction λc=>?_;have:=om (m + 1) l λj hj=>Classical.byContradiction λz=>c ⟨j,by omega,z⟩;omega
theorem Tab.left {t:SetTable}{es:Array (Int×Value)}(T:Tab t es):∃ j,j<=t.mask/\¬ j∈t.place.toList:=by have:=Lu (l:=t.place.toList) (m:=t.mask) (by rw [Array.length_toList,T.sz];exact T.room);exact this
theorem Tab.first {t:SetTable}{es:Array (Int×Value)}(T:Tab t es)(h:Int):∃ N,N<=10 * (t.mask + 13)/\¬ at' t.mask h N∈t.place.toList/\∀ n,n < N->at' t.mask h n∈t.place.toList:=sL h T.mask T.left
theorem Mw {t:SetTable}{j:Nat}(h:j∈t.place.toList):∃ i:Nat,t.place[i]?=some j:=by obtain ⟨i,hi,e⟩:=List.getElem_of_mem h;exact ⟨i,by rw [<-Array.getElem?_toList,zF hi,e]⟩
theorem pG {t:SetTable}{es:Array (Int×Value)}(T:Tab t es){hashAt:Nat->Int}{h:Int}{N:Nat}(hN:¬ at' t.mask h N∈t.place.toList)(jA:∀ n,n < N->at' t.mask h n∈t.place.toList) :
  ∀ (d k fuel:Nat),N - k=d->k<=N->d < fuel ->
   (∃ n i,k<=n/\n < N/\t.place[i]?=some (at' t.mask h n)/\hashAt i=h/\(∀ n',k<=n'->n' < n->∀ i',t.place[i']?=some (at' t.mask h n')->hashAt i'≠h)/\SetTable.probe.go t hashAt h fuel (ad t.mask k (start t.mask h))=some (.candidate (at' t.mask h n) i (ad t.mask (n + 1) (start t.mask h)))) \/
   ((∀ n',k<=n'->n' < N->∀ i',t.place[i']?=some (at' t.mask h n')->hashAt i'≠h)/\SetTable.probe.go t hashAt h fuel (ad t.mask k (start t.mask h))=some (.empty (at' t.mask h N) none))
 | d,k,0,e,hk,hf=>absurd hf (zd _)
 | 0,k,fuel + 1,e,hk,hf=>by
  have:k=N:=by omega
  subst this;refine .inr ⟨λn' h1 h2=>absurd h1 (by omega),?_⟩;unfold SetTable.probe.go;rw [show (ad t.mask k (start t.mask h)).j=at' t.mask h k from rfl,rP T.nd hN];dsimp only;rw [qo];rfl
 | d + 1,k,fuel + 1,e,hk,hf=>by
  obtain ⟨i,hi⟩:=Mw (jA k (by omega));by_cases c:hashAt i=h
  ·refine .inl ⟨k,i,zE _,by omega,hi,c,λn' h1 h2=>absurd h1 (by omega),?_⟩;unfold SetTable.probe.go;rw [show (ad t.mask k (start t.mask h)).j=at' t.mask h k from rfl,iS T.so hi];dsimp only;rw [if_pos (by rw [c];simp),kN,<- iJ]
  ·have step:SetTable.probe.go t hashAt h (fuel + 1) (ad t.mask k (start t.mask h))=SetTable.probe.go t hashAt h fuel (ad t.mask (k + 1) (start t.mask h)):=by
    conv=>lhs;unfold SetTable.probe.go
    rw [show (ad t.mask k (start t.mask h)).j=at' t.mask h k from rfl,iS T.so hi];dsimp only;rw [if_neg (by simpa using c),kN,<- iJ]
   have here:∀ i',t.place[i']?=some (at' t.mask h k)->hashAt i'≠h:=λi' e8=>by
    have:=(below_at T.so e8).symm.trans (below_at T.so hi);rw [this];exact c
   rw [step];rcases pG T hN jA d (k + 1) fuel (by omega) (by omega) (by omega) with ⟨n,i2,a1,a2,a3,a4,a5,a6⟩ | ⟨a1,a2⟩
   ·refine .inl ⟨n,i2,by omega,a2,a3,a4,λn' h1 h2 i' e8=>?_,a6⟩;by_cases q:n'=k
    ·subst q;exact here i' e8
    ·exact a5 n' (by omega) h2 i' e8
   ·refine .inr ⟨λn' h1 h2 i' e8=>?_,a2⟩;by_cases q:n'=k
    ·subst q;exact here i' e8
    ·exact a1 n' (by omega) h2 i' e8
end fK
namespace fK
open PySem
section
variable {prog:Program}{w:World}{K:Type} [DecidableEq K] {knd:HeapKind prog w K}{A:Around}{E:Value->Shared->Prop}{s:Shared}{a:Addr}
def TV (knd:HeapKind prog w K)(h:Heap)(es:Array (Int×Value))(ks:Nat->K):Prop:=∀ i (hi:i < es.size),∃ b,es[i]=(knd.hash (ks i),.ref b)/\knd.is h (ks i) b
def Calm (knd:HeapKind prog w K)(A:Around)(s:Shared):Prop:=∀ (k:K) (b:Addr),knd.is s.heap k b->∀ (E:Value->Shared->Prop) (Q:Bool->Shared->Prop),Q false s->wpAny (model prog w) A (ofAClassStatement 8 (.ref b)) Q E s
theorem Li {k:K}{c:Addr}(hk:knd.is s.heap k c)(cl:Calm knd A s):∀ (ys:List Value),(∀ y∈ys,∃ k b,y=.ref b/\knd.is s.heap k b)->∀ {Q:Bool->Shared->Prop},Q false s->wpAny (model prog w) A (searchCouldBeSeen (.ref c) ys) Q E s:=by
 intro ys hy Q q;unfold searchCouldBeSeen;refine wpAny_bind ?_;refine wpAny_forIn_list _ (λrest r s'=>r.1=none/\s'=s/\∀ y∈rest,∃ k b,y=.ref b/\knd.is s.heap k b) _ ?_ ?_ _ _ ⟨rfl,rfl,hy⟩
 ·rintro y rest r s' ⟨hr,rfl,jA⟩;obtain ⟨k2,b,rfl,hb⟩:=jA _ yN;have next:∀ u∈rest,∃ k b,u=Value.ref b/\knd.is s'.heap k b:=λu hu=>jA u (zw _ hu);dsimp only;split
  ·exact wpAny_pure ⟨rfl,rfl,next⟩
  ·refine wpAny_bind (knd.quiet hk ?_);simp only [Bool.not_true,zg,if_false];refine wpAny_bind (knd.quiet hb ?_);simp only [Bool.not_true,zg,if_false];refine wpAny_bind (cl _ _ hk _ _ ?_);simp only [zg,if_false];refine wpAny_bind (cl _ _ hb _ _ ?_);simp only [zg,if_false];exact wpAny_pure ⟨rfl,rfl,next⟩
 ·rintro ⟨r1,r2⟩ s' ⟨hr,rfl,_⟩;simp only at hr;subst hr;exact wpAny_pure q
theorem search {o:Obj}{es:Array (Int×Value)}{ep:Nat}{t:SetTable}{ks:Nat->K}{kx:K}{c:Addr}{adding:Bool}{Q:SetFound->Shared->Prop}(hr:knd.room A)(ho:s.heap.get? a=some o)(hd:o.data=.set es ep t)(T:Tab t es)(ke:TV knd s.heap es ks)(hx:knd.is s.heap kx c)(cl:Calm knd A s)
  (qt:∀ r:Option Nat,(r=none->adding=true)->(∃ i,i < es.size/\ks i=kx)->Q (.there r) s) {N:Nat} (hN:¬ at' t.mask (knd.hash kx) N∈t.place.toList) (jA:∀ n,n < N->at' t.mask (knd.hash kx) n∈t.place.toList) (hNb:N<=10 * (t.mask + 13))
  (qf:(∀ i,i < es.size->ks i≠kx)->Q (.free (at' t.mask (knd.hash kx) N) false) s) :
  ∀ (fuel k:Nat) (st:Option SetTable.Probe),N - k < fuel->k<=N->st.getD (t.probeStart (knd.hash kx))=ad t.mask k (start t.mask (knd.hash kx))->(∀ n',n' < k->∀ i',t.place[i']?=some (at' t.mask (knd.hash kx) n')->ks i'≠kx) ->
   wpAny (model prog w) A (setSearchFrom a (.ref c) (knd.hash kx) adding fuel st) Q E s
 | 0,k,st,hf,_,_,_=>absurd hf (zd _)
 | fuel + 1,k,st,hf,hk,vB,prev=>by
  unfold setSearchFrom;refine wpAny_bind (wpAny_setState_of ho hd T.fits ?_);dsimp only;rw [T.odd,vB];simp only [zg,if_false];unfold SetTable.probe;rcases pG T hN jA (hashAt:=λi=>((es[i]?).map (·.1)).getD 0) _ k (10 * SetTable.turns t.mask) rfl hk (by unfold SetTable.turns;omega) with ⟨n,i,a1,a2,a3,a4,a5,a6⟩ | ⟨a1,a2⟩
  ·generalize hp:SetTable.probe.go t _ (knd.hash kx) (10 * SetTable.turns t.mask) (ad t.mask k (start t.mask (knd.hash kx)))=pr;have e:=hp.symm.trans a6;subst e;have hi:i < es.size:=by
    have:=(Array.getElem?_eq_some_iff.mp a3).1;rw [T.sz] at this;exact this
   obtain ⟨b,eb,hb⟩:=ke i hi;have eg:es[i]?=some (knd.hash (ks i),.ref b):=by rw [<-eb];exact Array.getElem?_eq_getElem hi
   dsimp only;rw [eg];dsimp only;have sl:=iS T.so a3;have mem:t.sameMemory t.moves t.mask=some true:=by simp [SetTable.sameMemory]
   have again:=search (adding:=adding) hr ho hd T ke hx cl qt hN jA hNb qf fuel (n + 1) (some (ad t.mask (n + 1) (start t.mask (knd.hash kx)))) (by omega) (by omega) rfl;have more:ks i≠kx->∀ n',n' < n + 1->∀ i',t.place[i']?=some (at' t.mask (knd.hash kx) n')->ks i'≠kx:=λne n' hn i' e8=>by
    by_cases q:n' < k
    ·exact prev n' q i' e8
    by_cases q2:n'=n
    ·subst q2;have:=(below_at T.so e8).symm.trans (below_at T.so a3);rw [this];exact ne
    ·intro z;have hl:i' < es.size:=by
      have:=(Array.getElem?_eq_some_iff.mp e8).1;rw [T.sz] at this;exact this
     obtain ⟨b',Ye,_⟩:=ke i' hl;exact a5 n' (by omega) (by omega) i' e8 (by simp [Ye,hl,z])
   have stored:∀ y∈List.map (λx=>x.snd) (Array.filter (λx=>x.fst == knd.hash kx) es).toList,∃ k b,y=Value.ref b/\knd.is s.heap k b:=λy hy=>by
    obtain ⟨e,he,rfl⟩:=zQ.mp hy;have he:e∈es:=by
     have:e∈es/\e.fst=knd.hash kx:=by simpa using he
     exact this.1
    obtain ⟨j,hj,rfl⟩:=Array.getElem_of_mem he;obtain ⟨b',Ye,eW⟩:=ke j hj;exact ⟨_,b',by rw [Ye],eW⟩
   split
   ·refine wpAny_bind (Li hx cl _ stored ?_);simp only [zg,if_false];refine wpAny_bind (wpAny_holding (knd.eqBool hr hb hx ?_));refine wpAny_bind (wpAny_setState_of ho hd T.fits ?_);dsimp only;rw [mem];dsimp only;rw [if_pos (show (true=true) from rfl),sl];dsimp only;rw [eg];dsimp only;by_cases q:ks i=kx
    ·rw [decide_eq_true q];cases adding with
     | true=>exact wpAny_pure (qt _ (λ_=>rfl) ⟨i,hi,q⟩)
     | false=>
      simp only [yQ,zg,if_false];refine wpAny_bind (wpAny_isSame_ref_self ?_);exact wpAny_pure (qt _ (λz=>by cases z) ⟨i,hi,q⟩)
    ·rw [decide_eq_false q];simp only [ym,zg,if_false];refine wpAny_bind (wpAny_isSame_ref_self ?_);exact again (more q)
   ·refine wpAny_bind (wpAny_holding (knd.eqBool hr hb hx ?_));refine wpAny_bind (wpAny_setState_of ho hd T.fits ?_);dsimp only;rw [mem];dsimp only;rw [if_pos (show (true=true) from rfl),sl];dsimp only;rw [eg];dsimp only;by_cases q:ks i=kx
    ·rw [decide_eq_true q];cases adding with
     | true=>exact wpAny_pure (qt _ (λ_=>rfl) ⟨i,hi,q⟩)
     | false=>
      simp only [yQ,zg,if_false];refine wpAny_bind (wpAny_isSame_ref_self ?_);exact wpAny_pure (qt _ (λz=>by cases z) ⟨i,hi,q⟩)
    ·rw [decide_eq_false q];simp only [ym,zg,if_false];refine wpAny_bind (wpAny_isSame_ref_self ?_);exact again (more q)
  ·generalize hp:SetTable.probe.go t _ (knd.hash kx) (10 * SetTable.turns t.mask) (ad t.mask k (start t.mask (knd.hash kx)))=pr;have e:=hp.symm.trans a2;subst e;dsimp only;refine wpAny_pure (qf λi hi z=>?_);obtain ⟨m,hm,al⟩:=T.way i hi;obtain ⟨b,eb,_⟩:=ke i hi;rw [eb] at hm al;dsimp only at hm al;rw [z] at hm al;have mN:m < N:=Classical.byContradiction λc=>by
    by_cases q:N=m
    ·subst q;exact hN (by simpa using Array.mem_of_getElem? hm)
    ·exact hN (al N (by omega))
   by_cases q:m < k
   ·exact prev m q i hm z
   ·refine a1 m (by omega) mN i hm ?_;simp [eb,hi,z]
structure Tz (knd:HeapKind prog w K) (h:Heap) (a:Addr) (es:Array (Int×Value)) (ep:Nat) (t:SetTable) (ks:Nat->K):Prop where
 obj:h.get? a=some { cls:=.type "set", data:=.set es ep t }
 tab:Tab t es
 keys:TV knd h es ks
end
end fK
namespace fK
open PySem
theorem j9 {α:Type}{l:List α}{p:Nat}{x:α}(hp:p<=l.length)(i:Nat):(l.take p++x::l.drop p)[i]?=if i < p then l[i]? else if i=p then some x else l[i - 1]?:=by
 have lt:(l.take p).length=p:=by rw [zu];omega
 by_cases c:i < p
 ·rw [if_pos c,zi (by omega),List.getElem?_take_of_lt c]
 ·rw [if_neg c,zY (by omega),lt];by_cases d:i=p
  ·rw [if_pos d,d,Nat.sub_self];rfl
  ·rw [if_neg d,show i - p=(i - p - 1) + 1 from by omega,yO,List.getElem?_drop];congr 1;omega
theorem Tab.put {t:SetTable}{es:Array (Int×Value)}(T:Tab t es){h:Int}{x:Value}{N:Nat}(hN:¬ at' t.mask h N∈t.place.toList)(jA:∀ n,n < N->at' t.mask h n∈t.place.toList)(pl:Bool) :
  (((es.size + 1) * 5 < t.mask * 3)->Tab { (t.put (at' t.mask h N)).1 with plain:=pl } (SetTable.insertAt es (t.put (at' t.mask h N)).2 (h,x)))/\(t.put (at' t.mask h N)).1.dummies=#[]/\(t.put (at' t.mask h N)).1.mask=t.mask/\(t.put (at' t.mask h N)).1.place.size=es.size + 1:=by
 have e1:(t.put (at' t.mask h N)).1={ t with place:=SetTable.insertAt t.place (SetTable.below t.place (at' t.mask h N)) (at' t.mask h N) }:=by
  unfold SetTable.put;dsimp only;rw [T.nd];unfold SetTable.has;simp
 have e2:(t.put (at' t.mask h N)).2=SetTable.below t.place (at' t.mask h N):=rfl;rw [e1,e2];generalize hj:at' t.mask h N=j at *;obtain ⟨b1,b2,b3⟩:=kK (j:=j) T.so;generalize hp:SetTable.below t.place j=p at *;have lp:(SetTable.insertAt t.place p j).toList=t.place.toList.take p++j::t.place.toList.drop p:=SetTable.toList_insertAt ..;have le:(SetTable.insertAt es p (h,x)).toList=es.toList.take p++(h,x)::es.toList.drop p:=SetTable.toList_insertAt ..;have p1:p<=t.place.toList.length:=by rw [Array.length_toList];exact b1
 have p2:p<=es.toList.length:=by rw [Array.length_toList,<- T.sz];exact b1
 have s1:(SetTable.insertAt t.place p j).size=es.size + 1:=by
  rw [<-Array.length_toList,lp,zN,ze,zu,yl,Array.length_toList,<- T.sz];omega
 have s2:(SetTable.insertAt es p (h,x)).size=es.size + 1:=by
  rw [<-Array.length_toList,le,zN,ze,zu,yl,Array.length_toList];have:=T.sz;omega
 have mem:∀ j',j'∈(SetTable.insertAt t.place p j).toList↔j'=j\/j'∈t.place.toList:=λj'=>by
  rw [lp,zT,zK];constructor
  ·rintro (h | h | h)
   ·exact .inr (List.mem_of_mem_take h)
   ·exact .inl h
   ·exact .inr (List.mem_of_mem_drop h)
  ·rintro (h | h)
   ·exact .inr (.inl h)
   ·rw [<-List.take_append_drop p t.place.toList,zT] at h;exact h.imp id .inr
 refine ⟨λmj=>⟨T.mask,T.nd,?_,by rw [s2];exact s1,λj' kh=>?_,by rw [s2];exact mj,λi hi=>?_⟩,T.nd,rfl,s1⟩
 ·show (SetTable.insertAt t.place p j).toList.Pairwise (· < ·);rw [lp,List.pairwise_append,List.pairwise_cons];refine ⟨T.so.sublist (List.take_sublist _ _),⟨λy hy=>?_,T.so.sublist (List.drop_sublist _ _)⟩,λy hy z hz=>?_⟩
  ·obtain ⟨i,hi,e⟩:=List.getElem_of_mem hy;rw [List.getElem_drop] at e;have hl:p + i < t.place.size:=by rw [yl,Array.length_toList] at hi;omega
   have q:=b3 (p + i) hl (by omega);rw [Array.getElem_toList] at e;rw [e] at q;have ne:y≠j:=λz=>hN (by rw [<-z];exact List.mem_of_mem_drop hy);omega
  ·obtain ⟨i,hi,e⟩:=List.getElem_of_mem hy;rw [List.getElem_take] at e;rw [zu,Array.length_toList] at hi;have hl:i < t.place.size:=by omega
   have q:=b2 i hl (by omega);rw [Array.getElem_toList] at e;rw [e] at q;rcases zK.mp hz with z1 | z1
   ·rw [z1];exact q
   ·obtain ⟨k,hk,ek⟩:=List.getElem_of_mem z1;rw [List.getElem_drop] at ek;have Qt:p + k < t.place.size:=by rw [yl,Array.length_toList] at hk;omega
    have q2:=b3 (p + k) Qt (by omega);rw [Array.getElem_toList] at ek;rw [ek] at q2;omega
 ·have kh:j'∈(SetTable.insertAt t.place p j).toList:=kh;rcases (mem j').mp kh with z | z
  ·rw [z,<- hj];exact qm N
  ·exact T.small j' z
 ·show ∃ n,(SetTable.insertAt t.place p j)[i]?=some (at' t.mask (SetTable.insertAt es p (h,x))[i].1 n)/\∀ n',n' < n->at' t.mask (SetTable.insertAt es p (h,x))[i].1 n'∈(SetTable.insertAt t.place p j).toList;have ge:(SetTable.insertAt es p (h,x))[i]?=some (SetTable.insertAt es p (h,x))[i]:=Array.getElem?_eq_getElem hi;generalize (SetTable.insertAt es p (h,x))[i]=e at ge ⊢;rw [<-Array.getElem?_toList,le,j9 p2] at ge;rw [<-Array.getElem?_toList,lp,j9 p1,<- lp];have old:∀ k,es.toList[k]?=some e->∃ n,t.place.toList[k]?=some (at' t.mask e.1 n)/\∀ n',n' < n->at' t.mask e.1 n'∈(SetTable.insertAt t.place p j).toList:=λk hk=>by
   rw [Array.getElem?_toList] at hk;obtain ⟨SO,ek⟩:=Array.getElem?_eq_some_iff.mp hk;obtain ⟨n,a1,a2⟩:=T.way k SO;rw [ek] at a1 a2;exact ⟨n,by rw [Array.getElem?_toList];exact a1,λn' hn=>(mem _).mpr (.inr (a2 n' hn))⟩
  by_cases c:i < p
  ·rw [if_pos c] at ge ⊢;exact old i ge
  ·rw [if_neg c] at ge ⊢;by_cases d:i=p
   ·rw [if_pos d] at ge ⊢;cases ge;exact ⟨N,by rw [hj],λn' hn=>(mem _).mpr (.inr (jA n' hn))⟩
   ·rw [if_neg d] at ge ⊢;exact old (i - 1) ge
def tS (ow:Array (Option Nat))(j:Nat):Prop:=(ow.getD j (some 0)).isNone=false
theorem mE {m:Nat}{ow:Array (Option Nat)}:∀ (fuel i u:Nat),(∃ r,r < fuel/\¬ tS ow (runs m r i u).1) ->
  ∃ n,SetTable.layClean.free m ow fuel i u=some (ad m n (run m i u)).j/\¬ tS ow (ad m n (run m i u)).j/\∀ n',n' < n->tS ow (ad m n' (run m i u)).j
 | 0,i,u,⟨r,h,_⟩=>absurd h (zd _)
 | fuel + 1,i,u,⟨r,h,no⟩=>by
  unfold SetTable.layClean.free;cases e:(List.range (SetTable.runEnd m i + 1 - i)).find? λk=>(ow.getD (i + k) (some 0)).isNone with
  | some k=>
   dsimp only;obtain ⟨hk,cN,before⟩:=List.find?_range_eq_some.mp e;have cN:k < SetTable.runEnd m i + 1 - i:=zn.mp cN;have inr:∀ k',k'<=k->(ad m k' (run m i u)).j=i + k':=λk' SO=>by rw [fX k' (by omega)]
   refine ⟨k,by rw [inr k (zE _)],?_,λn' hn=>?_⟩
   ·rw [inr k (zE _)];unfold tS;rw [hk];simp
   ·rw [inr n' (by omega)];unfold tS;have:=before n' hn;simpa using this
  | none=>
   dsimp only;have all:∀ k,k < SetTable.runEnd m i + 1 - i->tS ow (i + k):=λk hk=>by
    have:=List.find?_eq_none.mp e k (zn.mpr hk);unfold tS;cases q:(ow.getD (i + k) (some 0)).isNone with
    | false=>rfl
    | true=>exact absurd q this
   have r0:r≠0:=λz=>by
    subst z;refine no ?_;exact all 0 (by have:=(dJ (m:=m) (i:=i)).2.1;omega)
   obtain ⟨r',rfl⟩:=Nat.exists_eq_succ_of_ne_zero r0;obtain ⟨n,a1,a2,a3⟩:=mE fuel ((i * 5 + 1 + u / 32) % (m + 1)) (u / 32) ⟨r',by omega,no⟩;have next:∀ n',ad m (SetTable.runEnd m i - i + 1 + n') (run m i u)=ad m n' (run m ((i * 5 + 1 + u / 32) % (m + 1)) (u / 32)):=λn'=>by rw [My,jr]
   refine ⟨SetTable.runEnd m i - i + 1 + n,?_,?_,λn' hn=>?_⟩
   ·rw [next];exact a1
   ·rw [next];exact a2
   ·by_cases c:n' < SetTable.runEnd m i - i + 1
    ·rw [fX n' (by omega)];exact all n' (by have:=(dJ (m:=m) (i:=i)).2.1;omega)
    ·rw [show n'=SetTable.runEnd m i - i + 1 + (n' - (SetTable.runEnd m i - i + 1)) from by omega,next];exact a3 _ (by omega)
structure Lay (m:Nat) (hs:List Int) (ow:Array (Option Nat)):Prop where
 sz:ow.size=m + 1
 each:∀ (k:Nat) (h:Int),hs[k]?=some h->∃ n,ow[at' m h n]?=some (some k)/\∀ n',n' < n->tS ow (at' m h n')
 low:∀ (j k:Nat),ow[j]?=some (some k)->k < hs.length
 one:∀ (j j' k:Nat),ow[j]?=some (some k)->ow[j']?=some (some k)->j=j'
theorem iw {ow:Array (Option Nat)}{j:Nat}(h:j < ow.size):tS ow j↔∃ k,ow[j]?=some (some k):=by unfold tS;rw [show ow.getD j (some 0)=ow[j] from by simp [Array.getD,h],Array.getElem?_eq_getElem h];cases ow[j] <;> simp
theorem Lay.left {m:Nat}{hs:List Int}{ow:Array (Option Nat)}(L:Lay m hs ow)(iN:hs.length<=m):∃ j,j<=m/\¬ tS ow j:=by
 refine Classical.byContradiction λc=>?_;have all:∀ j,j < m + 1->∃ k,ow[j]?=some (some k):=λj hj=>(iw (by rw [L.sz];exact hj)).mp (Classical.byContradiction λz=>c ⟨j,by omega,z⟩);have pick:∀ k,∃ j,k < hs.length->ow[j]?=some (some k):=λk=>by
  by_cases hk:k < hs.length
  ·obtain ⟨n,a,_⟩:=L.each k hs[k] (zF hk);exact ⟨_,λ_=>a⟩
  ·exact ⟨0,λz=>absurd z hk⟩
 have:=om (m + 1) ((List.range hs.length).map λk=>(pick k).choose) λj hj=>by
  obtain ⟨k,hk⟩:=all j hj;have kl:=L.low j k hk;exact zQ.mpr ⟨k,zn.mpr kl,L.one _ _ _ ((pick k).choose_spec kl) hk⟩
 rw [zA,yJ] at this;omega
theorem Lay.step {m:Nat}{hs:List Int}{ow:Array (Option Nat)}(hm:Mask m)(L:Lay m hs ow)(iN:hs.length<=m)(h:Int) :
  ∃ j,SetTable.layClean.free m ow (SetTable.turns m) (SetTable.bits h % (m + 1)) (SetTable.bits h)=some j/\Lay m (hs++[h]) (ow.setIfInBounds j (some hs.length)):=by
 obtain ⟨j0,hj0,no⟩:=L.left iN;obtain ⟨r,hr,e⟩:=reach (u:=SetTable.bits h) hm (yT.mp (Nat.mod_lt (SetTable.bits h) (show 0 < m + 1 by omega))) (uy h) hj0;obtain ⟨n,a1,a2,a3⟩:=mE (m:=m) (ow:=ow) (SetTable.turns m) (SetTable.bits h % (m + 1)) (SetTable.bits h) ⟨r,by unfold SetTable.turns;omega,by rw [e];exact no⟩;have ej:(ad m n (run m (SetTable.bits h % (m + 1)) (SetTable.bits h))).j=at' m h n:=rfl;rw [ej] at a1 a2;have a3:∀ n',n' < n->tS ow (at' m h n'):=a3;have jl:at' m h n < ow.size:=by rw [L.sz];exact yT.mpr (qm n)
 have get:∀ j,(ow.setIfInBounds (at' m h n) (some hs.length))[j]?=if at' m h n=j then some (some hs.length) else ow[j]?:=λj=>by
  rw [Array.getElem?_setIfInBounds];by_cases c:at' m h n=j
  ·rw [if_pos c,if_pos c,if_pos jl]
  ·rw [if_neg c,if_neg c]
 have keep:∀ j,tS ow j->j < ow.size->tS (ow.setIfInBounds (at' m h n) (some hs.length)) j:=λj oj hj=>by
  rw [iw (by rw [Array.size_setIfInBounds];exact hj),get];by_cases c:at' m h n=j
  ·exact ⟨_,by rw [if_pos c]⟩
  ·rw [if_neg c];exact (iw hj).mp oj
 have free:∀ k,ow[at' m h n]?≠some (some k):=λk z=>a2 ((iw jl).mpr ⟨k,z⟩);refine ⟨_,a1,by rw [Array.size_setIfInBounds];exact L.sz,λk x hx=>?_,λj k hj=>?_,λj j' k h1 h2=>?_⟩
 ·by_cases c:k < hs.length
  ·rw [zi c] at hx;obtain ⟨n2,b1,b2⟩:=L.each k x hx;refine ⟨n2,?_,λn' hn=>keep _ (b2 n' hn) (by rw [L.sz];exact yT.mpr (qm n'))⟩;rw [get,if_neg λz=>free k (by rw [z];exact b1)];exact b1
  ·rw [zY (by omega)] at hx;have:k - hs.length=0:=by
    have:=(zC.mp hx).1;simp at this;omega
   rw [this] at hx;cases hx;have:k=hs.length:=by omega
   subst this;exact ⟨n,by rw [get,if_pos rfl],λn' hn=>keep _ (a3 n' hn) (by rw [L.sz];exact yT.mpr (qm n'))⟩
 ·rw [get] at hj;rw [zN,yV];split at hj
  ·cases hj;omega
  ·have:=L.low j k hj;omega
 ·rw [get] at h1 h2;split at h1 <;> split at h2
  ·rename_i x y;rw [<-x,<- y]
  ·cases h1;have:=L.low _ _ h2;omega
  ·cases h2;have:=L.low _ _ h1;omega
  ·exact L.one _ _ _ h1 h2
theorem pQ {m:Nat}(hm:Mask m):∀ (l hs:List Int) (ow:Array (Option Nat)),Lay m hs ow->hs.length + l.length<=m + 1 ->
  ∃ Um,l.foldl (λ(acc:Option (Array (Option Nat)×Nat)) h=>do
   let (owner,k) <- acc
   let j <- SetTable.layClean.free m owner (SetTable.turns m) (SetTable.bits h % (m + 1)) (SetTable.bits h)
   pure (owner.setIfInBounds j (some k),k + 1)) (some (ow,hs.length))=some (Um,hs.length + l.length)/\Lay m (hs++l) Um
 | [],hs,ow,L,_=>⟨ow,rfl,by rw [yp];exact L⟩
 | h::l,hs,ow,L,iN=>by
  obtain ⟨j,e,L'⟩:=L.step hm (by rw [ze] at iN;omega) h;have X7:(hs++[h]).length + l.length<=m + 1:=by rw [zN,yV];rw [ze] at iN;omega
  obtain ⟨Um,e2,L2⟩:=pQ hm l (hs++[h]) _ L' X7;refine ⟨Um,?_,by rw [List.append_assoc] at L2;exact L2⟩;rw [List.foldl_cons];show l.foldl _ ((SetTable.layClean.free m ow (SetTable.turns m) (SetTable.bits h % (m + 1)) (SetTable.bits h)).bind λj=>some (ow.setIfInBounds j (some hs.length),hs.length + 1))=_;rw [e];rw [zN,yV] at e2;rw [ze];rw [show hs.length + (l.length + 1)=hs.length + 1 + l.length from by omega];exact e2
theorem vn {m:Nat}(hm:Mask m){hashes:Array Int}(iN:hashes.size<=m + 1):∃ ow,SetTable.layClean m hashes=some ow/\Lay m hashes.toList ow:=by have L0:Lay m [] (Array.replicate (m + 1) none):=⟨by simp,λk h e=>(by cases e),(λj k e=>by rw [Array.getElem?_replicate] at e;split at e <;> cases e),(λj j' k e=>by rw [Array.getElem?_replicate] at e;split at e <;> cases e)⟩;obtain ⟨ow,e,L⟩:=pQ hm hashes.toList [] _ L0 (by rw [yL,Array.length_toList];omega);refine ⟨ow,?_,by simpa using L⟩;unfold SetTable.layClean;rw [<-Array.foldl_toList];have:=congrArg (Option.map (·.1)) e;exact this
theorem Nx {l l':List Nat}(h:l.Nodup)(h':l'.Nodup)(e:∀ x,x∈l↔x∈l'):l.Perm l':=by
 rw [List.perm_iff_count];intro a;rw [h.count,h'.count];by_cases c:a∈l
 ·rw [if_pos c,if_pos ((e a).mp c)]
 ·rw [if_neg c,if_neg λz=>c ((e a).mpr z)]
theorem nP {α β:Type}{f:α->Option β}{g:α->β}:∀ {l:List α},(∀ x∈l,f x=some (g x))->l.filterMap f=l.map g
 | [],_=>rfl
 | x::l,h=>by
  rw [List.filterMap_cons_some (h x yN),zf,nP λy hy=>h y (zw _ hy)]
theorem nQ {f:Nat->Option Nat}:∀ (l:List Nat),(l.filterMap λj=>(f j).map (j,·)).map (·.1)=l.filter λj=>(f j).isSome
 | []=>rfl
 | x::l=>by
  cases e:f x with
  | none=>rw [List.filterMap_cons_none (by rw [e];rfl),List.filter_cons_of_neg (by rw [e];simp),nQ l]
  | some k=>rw [List.filterMap_cons_some (b:=(x,k)) (by rw [e];rfl),List.filter_cons_of_pos (by rw [e];rfl),zf,nQ l]
theorem pe {t:SetTable}{es:Array (Int×Value)}{wanted m:Nat}(hw:SetTable.sizeAbove wanted - 1=m)(hm:Mask m)(mj:es.size * 5 < m * 3) :
  ∃ t' order,t.relaid (es.map (·.1)) wanted=some (t',order)/\(order.filterMap (es[·]?)).toList.Perm es.toList/\Tab t' (order.filterMap (es[·]?)):=by
 obtain ⟨ow,e,L⟩:=vn (hashes:=es.map (·.1)) hm (by rw [Array.size_map];omega);have lh:(es.map (·.1)).toList.length=es.size:=by rw [Array.length_toList,Array.size_map]
 have hh:∀ (k:Nat) (x:Int×Value),es[k]?=some x->(es.map (·.1)).toList[k]?=some x.1:=λk x hx=>by rw [Array.getElem?_toList,Array.getElem?_map,hx];rfl
 let lv:=(List.range (m + 1)).filterMap λj=>(ow.getD j none).map (j,·)
 have e2:t.relaid (es.map (·.1)) wanted=some ({ mask:=m,place:=(lv.map (·.1)).toArray,dummies:=#[],finger:=t.finger,led:=t.led,moves:=t.movedTo m,plain:=t.plain },(lv.map (·.2)).toArray):=by
  unfold SetTable.relaid SetTable.laid;rw [hw,e];rfl
 have f1:lv.map (·.1)=(List.range (m + 1)).filter λj=>(ow.getD j none).isSome:=nQ _;have f2:∀ p∈lv,ow[p.1]?=some (some p.2)/\p.1<=m:=λp hp=>by
  obtain ⟨j,hj,q⟩:=yb.mp hp;have hj:j < m + 1:=zn.mp hj;have hs:j < ow.size:=by rw [L.sz];exact hj
  rw [show ow.getD j none=ow[j] from by simp [Array.getD,hs]] at q;cases eo:ow[j] with
  | none=>rw [eo] at q;cases q
  | some k=>rw [eo] at q;cases q;exact ⟨by rw [Array.getElem?_eq_getElem hs,eo],by show j<=m;omega⟩
 have f3:∀ j k,ow[j]?=some (some k)->(j,k)∈lv:=λj k h=>by
  obtain ⟨hs,eo⟩:=Array.getElem?_eq_some_iff.mp h;refine yb.mpr ⟨j,zn.mpr (by rw [L.sz] at hs;exact hs),?_⟩;rw [show ow.getD j none=ow[j] from by simp [Array.getD,hs],eo];rfl
 have YI:(lv.map (·.1)).Pairwise (· < ·):=by rw [f1];exact List.pairwise_lt_range.filter _
 have so2:lv.Pairwise λa b=>a.1 < b.1:=yz.mp YI;have nd:(lv.map (·.2)).Nodup:=by
  refine yz.mpr (so2.imp_of_mem λ{a b} ha hb h z=>?_);have:=L.one _ _ _ (f2 a ha).1 (by rw [z];exact (f2 b hb).1);omega
 have kl:∀ p∈lv,p.2 < es.size:=λp hp=>by have:=L.low _ _ (f2 p hp).1;rw [lh] at this;exact this
 have pm:(lv.map (·.2)).Perm (List.range es.size):=Nx nd List.nodup_range λk=>by
  constructor
  ·intro h;obtain ⟨p,hp,rfl⟩:=zQ.mp h;exact zn.mpr (kl p hp)
  ·intro h;have hk:k < es.size:=zn.mp h;obtain ⟨n,a,_⟩:=L.each k es[k].1 (hh k _ (Array.getElem?_eq_getElem hk));exact zQ.mpr ⟨_,f3 _ _ a,rfl⟩
 let g:Nat->Int×Value:=λk=>(es[k]?).getD (0,Value.none)
 have gk:∀ k,k < es.size->es[k]?=some (g k):=λk hk=>by show es[k]?=some ((es[k]?).getD _);rw [Array.getElem?_eq_getElem hk];rfl
 have e3:((lv.map (·.2)).toArray.filterMap (es[·]?)).toList=lv.map λp=>g p.2:=by
  rw [Array.toList_filterMap,List.filterMap_map];exact nP λp hp=>gk p.2 (kl p hp)
 have e4:es.toList=(List.range es.size).map g:=by
  have:=filterMap_getElem?_range es;rw [nP (g:=g) λk hk=>gk k (zn.mp hk)] at this;exact this.symm
 refine ⟨_,_,e2,?_,?_⟩
 ·rw [e3,e4,show (λp:Nat×Nat=>g p.2)=g ∘ (·.2) from rfl,<- yF];exact pm.map g
 ·have sz:((lv.map (·.2)).toArray.filterMap (es[·]?)).size=lv.length:=by rw [<-Array.length_toList,e3,zA]
  have ll:lv.length=es.size:=by have:=pm.length_eq;rw [zA,yJ] at this;exact this
  refine ⟨hm,rfl,by simpa using YI,by rw [sz];simp,λj hj=>?_,by rw [sz,ll];exact mj,λi hi=>?_⟩
  ·have hj:j∈lv.map (·.1):=by simpa using hj
   obtain ⟨p,hp,rfl⟩:=zQ.mp hj;exact (f2 p hp).2
  ·have ge:((lv.map (·.2)).toArray.filterMap (es[·]?))[i]?=some ((lv.map (·.2)).toArray.filterMap (es[·]?))[i]:=Array.getElem?_eq_getElem hi;generalize ((lv.map (·.2)).toArray.filterMap (es[·]?))[i]=x at ge ⊢;rw [<-Array.getElem?_toList,e3,zD] at ge;cases ep:lv[i]? with
   | none=>rw [ep] at ge;cases ge
   | some p=>
    rw [ep] at ge;have ge:g p.2=x:=Option.some.inj ge;have hp:=zB ep;have hx:=gk p.2 (kl p hp);rw [ge] at hx;obtain ⟨n,a1,a2⟩:=L.each p.2 x.1 (hh p.2 x hx);have ej:=L.one _ _ _ a1 (f2 p hp).1;refine ⟨n,?_,λn' hn=>?_⟩
    ·show ((lv.map (·.1)).toArray)[i]?=some (at' m x.1 n);rw [List.getElem?_toArray,zD,ep,ej];rfl
    ·show at' m x.1 n'∈((lv.map (·.1)).toArray).toList;obtain ⟨k,hk⟩:=(iw (by rw [L.sz];exact yT.mpr (qm n'))).mp (a2 n' hn);simpa using ⟨k,f3 _ _ hk⟩
end fK
namespace fK
open PySem
section
variable {prog:Program}{w:World}{K:Type} [DecidableEq K] {knd:HeapKind prog w K}{A:Around}{E:Value->Shared->Prop}{s:Shared}{a:Addr}
def O0 (knd:HeapKind prog w K):Prop:=∀ (A:Around) (s:Shared) (k:K) (b:Addr),knd.is s.heap k b->∀ (E:Value->Shared->Prop) (Q:Bool->Shared->Prop),(∀ v,Q v s)->wpAny (model prog w) A (hashByValue 8 (.ref b)) Q E s
def oq (es:Array (Int×Value))(ep:Nat)(t:SetTable):Obj:={ cls:=.type "set", data:=.set es ep t }
theorem store {es jB:Array (Int×Value)}{ep:Nat}{t t':SetTable}{Q:Unit->Shared->Prop}(ho:s.heap.get? a=some (oq es ep t))(hz:jB.size<=sizeLine)
  (h:∀ h',Heap.SameBut a s.heap h'->h'.get? a=some (oq jB (ep + 1) t')->Q () { s with heap:=h' }):wpAny (model prog w) A (storeSet a jB t') Q E s:=by
 refine wpAny_storeSet_of ho rfl (h _ (Heap.SameBut.update s.heap a (Obj.putSet jB t')) ?_) hz;have:=Heap.get?_update_self (Obj.putSet jB t') ho (by rw [putSet_of jB t' rfl];rfl);rw [putSet_of jB t' rfl] at this;exact this
theorem sA {n m:Nat}(hm:Mask m)(lt:(n - 1) * 5 < m * 3)(n1:1<=n)(full:n * 5 ≥ m * 3)(iN:n<=4000):Mask (SetTable.sizeAbove (SetTable.grown n) - 1)/\n * 5 < (SetTable.sizeAbove (SetTable.grown n) - 1) * 3/\SetTable.sizeAbove (SetTable.grown n)<=8192:=by
 rcases hm with rfl | rfl | rfl | rfl | rfl | rfl
 ·have:n=5:=by omega
  subst this;exact ⟨.inr (.inl (by decide +kernel)),by decide +kernel,by decide +kernel⟩
 ·have:n=19:=by omega
  subst this;exact ⟨.inr (.inr (.inl (by decide +kernel))),by decide +kernel,by decide +kernel⟩
 ·have:n=77:=by omega
  subst this;exact ⟨.inr (.inr (.inr (.inl (by decide +kernel)))),by decide +kernel,by decide +kernel⟩
 ·have:n=307:=by omega
  subst this;exact ⟨.inr (.inr (.inr (.inr (.inl (by decide +kernel))))),by decide +kernel,by decide +kernel⟩
 ·have:n=1229:=by omega
  subst this;exact ⟨.inr (.inr (.inr (.inr (.inr (by decide +kernel))))),by decide +kernel,by decide +kernel⟩
 ·omega
theorem add {es:Array (Int×Value)}{ep:Nat}{t:SetTable}{ks:Nat->K}{kx:K}{c:Addr}{Q:Bool->Shared->Prop}(hr:knd.room A)(S:Tz knd s.heap a es ep t ks)(hx:knd.is s.heap kx c)(cl:Calm knd A s)(hb:O0 knd)(iN:es.size < 4000)
  (qt:(∃ i,i < es.size/\ks i=kx)->Q false s)
  (qf:∀ (h':Heap) (jB:Array (Int×Value)) (QJ:Nat) (t':SetTable),(∀ i,i < es.size->ks i≠kx)->Heap.SameBut a s.heap h'->h'.get? a=some (oq jB QJ t')->Tab t' jB->jB.toList.Perm (es.toList++[(knd.hash kx,.ref c)])->Q true { s with heap:=h' }) :
  wpAny (model prog w) A (setAddHashed a (.ref c) (knd.hash kx)) Q E s:=by
 obtain ⟨N,n1,n2,n3⟩:=S.tab.first (knd.hash kx);have line:10000<=sizeLine:=by rw [sizeLine_eq];decide
 unfold setAddHashed setAddHashedIn;refine wpAny_holding (wpAny_bind (wpAny_setState_of S.obj rfl S.tab.fits ?_));dsimp only;rw [show byScan (.ref c) es=false from rfl];simp only [zg,if_false];refine wpAny_bind ?_;unfold setSearch;have lim:10 * (t.mask + 13) < 100000:=by
  rcases S.tab.mask with h | h | h | h | h | h <;> rw [h] <;> decide
 refine search hr S.obj rfl S.tab S.keys hx cl (λr h f=>?_) n2 n3 n1 (λnf=>?_) 100000 0 none (by omega) (zc _) rfl (λn' h=>absurd h (zd _))
 ·exact wpAny_pure (qt f)
 ·dsimp only;refine wpAny_bind (wpAny_setState_of S.obj rfl S.tab.fits ?_);dsimp only;have m7:7<=t.mask:=by rcases S.tab.mask with h | h | h | h | h | h <;> omega
  have lt:=S.tab.mj;have Mb:SetTable.tooFull=λt=>decide (t.fill * 5 ≥ t.mask * 3):=rfl;have tail:∀ tt,(∃ pl,tt={ (t.put (at' t.mask (knd.hash kx) N)).1 with plain:=pl })->wpAny (model prog w) A (do
    storeSet a (SetTable.insertAt es (t.put (at' t.mask (knd.hash kx) N)).2 (knd.hash kx,Value.ref c)) tt
    if (!false && tt.tooFull)=true then do
     setRelay a (SetTable.grown (es.size + 1))
     pure true
    else pure true) Q E s:=by
   rintro tt ⟨pl,rfl⟩;obtain ⟨pt,pd,pm,ps⟩:=S.tab.put (x:=Value.ref c) n2 n3 pl;have pp:=SetTable.insertAt_perm es (t.put (at' t.mask (knd.hash kx) N)).2 (knd.hash kx,Value.ref c);rw [Array.toList_push] at pp;have sz:(SetTable.insertAt es (t.put (at' t.mask (knd.hash kx) N)).2 (knd.hash kx,Value.ref c)).size=es.size + 1:=by
    have:=pp.length_eq;rw [Array.length_toList,zN,Array.length_toList,yV] at this;exact this
   generalize (t.put (at' t.mask (knd.hash kx) N)).1=T1 at pt pd pm ps ⊢;generalize SetTable.insertAt es (t.put (at' t.mask (knd.hash kx) N)).2 (knd.hash kx,Value.ref c)=OQ at pt pp sz ⊢;have fit:({ T1 with plain:=pl }:SetTable).fits OQ.size=true:=by
    unfold SetTable.fits SetTable.fill;dsimp only;rw [ps,pd,sz,pm];simp;omega
   refine wpAny_bind (store S.obj (by omega) λh' sb go=>?_);have full:({ T1 with plain:=pl }:SetTable).tooFull=decide ((es.size + 1) * 5 ≥ t.mask * 3):=by
    unfold SetTable.tooFull SetTable.fill;dsimp only;rw [ps,pd,pm];rfl
   rw [full];by_cases c:(es.size + 1) * 5 ≥ t.mask * 3
   ·rw [decide_eq_true c];simp only [Bool.not_false,Bool.and_self,if_true];obtain ⟨gm,gl,gz⟩:=sA S.tab.mask (by rw [Nat.add_sub_cancel];exact lt) (by omega) c (by omega);obtain ⟨t2,order,er,pr,T2⟩:=pe (t:={ T1 with plain:=pl }) (es:=OQ) rfl gm (by rw [sz];exact gl);refine wpAny_bind ?_;unfold setRelay;refine wpAny_bind (wpAny_setState_of (s:={ s with heap:=h' }) go rfl fit ?_);dsimp only;rw [if_neg (by omega)];refine wpAny_bind ?_;rw [er];show wpAny (model prog w) A (if ((order.filterMap (OQ[·]?)).size != OQ.size)=true then _ else _) _ _ _;have s2:(order.filterMap (OQ[·]?)).size=OQ.size:=by have:=pr.length_eq;rw [Array.length_toList,Array.length_toList] at this;exact this
    rw [if_neg (by rw [s2];simp)];refine wpAny_pure ?_;dsimp only;refine store (s:={ s with heap:=h' }) go (by rw [s2];omega) λh2 sb2 go2=>?_;exact wpAny_pure (qf h2 _ _ _ nf (sb.trans sb2) go2 T2 (pr.trans pp))
   ·rw [decide_eq_false c];simp only [Bool.not_false,ym,zg,if_false];exact wpAny_pure (qf h' _ _ _ nf sb go (pt (by omega)) pp)
  split
  ·refine wpAny_bind (hb _ _ _ _ hx _ _ λv=>tail _ ?_);cases v with
   | true=>exact ⟨(t.put (at' t.mask (knd.hash kx) N)).1.plain,rfl⟩
   | false=>exact ⟨false,rfl⟩
  ·refine wpAny_bind (wpAny_pure (tail _ ⟨(t.put (at' t.mask (knd.hash kx) N)).1.plain,rfl⟩))
end
end fK
namespace fK
open PySem PySem.Spec
def Kp (h0 h:Heap):Prop:=∀ b o,h0.get? b=some o->h.get? b=some o
section
variable {prog:Program}{w:World}{K:Type} [DecidableEq K] [Inhabited K] {knd:HeapKind prog w K}
def Holds (knd:HeapKind prog w K)(h:Heap)(a:Addr)(xs:List (Addr×K)):Prop:=∃ es ep t,h.get? a=some (oq es ep t)/\Tab t es/\es.toList.Perm (xs.map λx=>(knd.hash x.2,Value.ref x.1))
theorem Holds.Wg {h:Heap}{a:Addr}{xs:List (Addr×K)}(H:Holds knd h a xs)(hk:∀ x∈xs,knd.is h x.2 x.1):∃ es ep t ks,Tz knd h a es ep t ks/\es.toList.Perm (xs.map λx=>(knd.hash x.2,Value.ref x.1))/\es.size=xs.length/\∀ i,i < es.size->ks i∈xs.map (·.2):=by
 obtain ⟨es,ep,t,ho,T,pm⟩:=H;have ln:es.size=xs.length:=by have:=pm.length_eq;rw [Array.length_toList,zA] at this;exact this
 have pick:∀ i,∃ x:Addr×K,i < es.size->x∈xs/\es[i]?=some (knd.hash x.2,Value.ref x.1):=λi=>by
  by_cases hi:i < es.size
  ·have:=pm.mem_iff.mp (show es[i]∈es.toList from by simp);obtain ⟨x,hx,e⟩:=zQ.mp this;exact ⟨x,λ_=>⟨hx,by rw [Array.getElem?_eq_getElem hi,<- e]⟩⟩
  ·exact ⟨(0,default),λz=>absurd z hi⟩
 refine ⟨es,ep,t,λi=>((pick i).choose).2,⟨ho,T,λi hi=>?_⟩,pm,ln,λi hi=>zQ.mpr ⟨_,((pick i).choose_spec hi).1,rfl⟩⟩;obtain ⟨h1,h2⟩:=(pick i).choose_spec hi;exact ⟨_,Option.some.inj ((Array.getElem?_eq_getElem hi).symm.trans h2),hk _ h1⟩
theorem Holds.move {h h':Heap}{a:Addr}{xs:List (Addr×K)}(H:Holds knd h a xs)(k:∀ o,h.get? a=some o->h'.get? a=some o):Holds knd h' a xs:=by obtain ⟨es,ep,t,ho,T,pm⟩:=H;exact ⟨es,ep,t,k _ ho,T,pm⟩
section
variable {A:Around}{R:Result->Shared->Prop}{I:Addr}{fp wr:List Addr}{G:Array GenState->Array GenState->Prop}{n:Nat}{P:Nat->Value->Prop}{St:Nat->Shared->Prop} {h0:Heap}{xs:List (Addr×K)}
theorem loop (W:WalksS prog w A.in1 I fp wr G n P St)(S:Addr)(ZE:S ∉ fp)(hr:knd.room A.in1)(cl:∀ B (s':Shared),Calm knd B s')(hb:O0 knd)(f0:h0.get? S=none)(f1:∀ b∈wr,h0.get? b=none)(isK:∀ h h' k b,Kp h h'->knd.is h k b->knd.is h' k b)
  (hn:xs.length=n) (iN:n < 4000) (nd:(xs.map (·.2)).Nodup) (hx:∀ x∈xs,knd.is h0 x.2 x.1) (hv:∀ i v,P i v->∃ x,xs[i]?=some x/\v=.ref x.1) :
  ∀ (k i:Nat) (s:Shared),n - i=k->i<=n->St i s->Kp h0 s.heap->Holds knd s.heap S (xs.take i) ->
   (∀ s',Moved (S::wr) G s s'->Holds knd s'.heap S xs->R (.ok (.ret .none)) s')->codeAny (model prog w) A (.builtin "set.update.loop" ⟨[.ref S,.ref I],[]⟩) R s:=by
 have ZD:S ∉ wr:=λh=>ZE (W.sub _ h);have sub:∀ b∈wr,b∈S::wr:=λb hb=>zw _ hb;intro k;induction k with
 | zero=>
  intro i s hk hi vB kp hS hR;obtain rfl:i=n:=by omega
  refine codeAny_builtin PyProof.Rows.F.entry_set_update_loop ?_;rw [Around.under_plainId PyProof.Rows.F.plain_set_update_loop _];show wpAny _ A.in1 (pyNext (.ref I) >>= _) _ _ s;refine wpAny_bind (W.done s _ _ vB λs' hm=>?_);show wpAny _ A.in1 (ret Value.none) _ _ s';rw [<-hn,zv] at hS;exact wpAny_pure (hR s' (hm.mono sub) (hS.move λo e=>hm.heap S o ZD e))
 | succ k ih=>
  intro i s hk hi vB kp hS hR;have lt:i < n:=by omega
  refine codeAny_builtin PyProof.Rows.F.entry_set_update_loop ?_;rw [Around.under_plainId PyProof.Rows.F.plain_set_update_loop _];show wpAny _ A.in1 (pyNext (.ref I) >>= _) _ _ s;refine wpAny_bind (W.item i s _ _ lt vB λv s' hP Xg hm=>?_);obtain ⟨x,WX,rfl⟩:=hv i v hP;have Y9:Kp h0 s'.heap:=λb o e=>hm.heap b o (λz=>by rw [f1 b z] at e;cases e) (kp b o e);have QB:Holds knd s'.heap S (xs.take i):=hS.move λo e=>hm.heap S o ZD e;have WS:∀ y∈xs,knd.is s'.heap y.2 y.1:=λy hy=>isK _ _ _ _ Y9 (hx y hy);obtain ⟨es,ep,t,ks,T,pm,ez,mem⟩:=QB.Wg λy hy=>WS y (List.mem_of_mem_take hy);have NV:=zB WX;show wpAny _ A.in1 (holding [Value.ref x.1] (setAdd S (.ref x.1)) >>= _) _ _ s';refine wpAny_bind (wpAny_holding ?_);unfold setAdd;refine wpAny_holding ?_;refine wpAny_bind (knd.pyHash hr (WS x NV) ?_);refine add (s:={ s' with toks:=s'.toks + knd.draws x.2 }) hr ⟨T.obj,T.tab,T.keys⟩ (WS x NV) (cl _ _) hb (by rw [ez,zu];omega) (λf=>?_) (λh' jB QJ t' nf sb go T' pm'=>?_)
  ·exfalso;obtain ⟨j,hj,e⟩:=f;have m1:=mem j hj;rw [e,List.map_take] at m1;obtain ⟨j',kh⟩:=List.getElem?_of_mem m1;rw [List.getElem?_take] at kh;split at kh
   ·rename_i lt';have e1:(xs.map (·.2))[i]?=some x.2:=by rw [zD,WX];rfl
    have:=(List.getElem?_inj (zC.mp kh).1 nd).mp (kh.trans e1.symm);omega
   ·cases kh
  ·have kp2:Kp h0 h':=λb o e=>by rw [sb.2 b (λz=>by rw [z,f0] at e;cases e)];exact Y9 b o e
   refine wpAny_pure ⟨plainId_quiet PyProof.Rows.F.plain_set_update_loop _,ih (i + 1) _ (by omega) lt (W.frame _ s' _ _ Xg (Nat.le_add_right _ _) λb eW o e=>?_) kp2 ⟨jB,QJ,t',go,T',?_⟩ λlY Xo XU=>?_⟩
   ·rw [sb.2 b (λz=>ZE (by rw [<-z];exact eW))];exact e
   ·rw [List.take_add_one,WX,zG];exact pm'.trans (pm.append_right _)
   ·refine hR lY (Moved.trans W.gtrans ((hm.mono sub).then_heap (Nat.le_add_right _ _) λb o eW e=>?_) Xo) XU;rw [sb.2 b (λz=>eW (by rw [z];exact yN))];exact e
end
section
variable {A:Around}{E:Value->Shared->Prop}{s:Shared}{xs:List (Addr×K)}
end
end
end fK
namespace L2
open PySem PySem.Spec PyProof.Rows
section
variable {X:Cx}
def oV:Option Int->V
 | none=>.bD
 | some i=>.int i
end
end L2
namespace Sm
open PySem L2 aR
def Th (H:Hp)(x:V)(r:Option (List V)):Prop:=
 (∃ t,kX H x=some t/\t ≠ "tuple" /\ r=none)\/(∃ a xs,x=.ref a/\H a=some (.tup xs)/\(∀ e∈xs,∃ t,kX H e=some t)/\r=some xs)
def isLet (w:Int):Option (List V)->Bool
 | some [a,b,c,d]=>oF 0 (w - 1) a && (oF 0 1000000000 b && (oF 0 (w - 1) c && oF 0 1000000000 d))
 | _=>false
def rK:Sp:=λvs H Q _=>∃ b x t aa tr tm ps,vs=[.ref b,x]/\aL H b aa tr tm ps/\kX H x=some t/\Q (.bl (oF 0 ((aa.length:Int) - 1) x)) H
def rL:Sp:=λvs H Q _=>∃ b x r aa tr tm ps,vs=[.ref b,x]/\aL H b aa tr tm ps/\Th H x r/\Q (.bl (isLet aa.length r)) H
theorem fO {H:Hp}{l:Addr}{xs:List V}(h:H l=some (.tup xs)):kX H (.ref l)=some "tuple" := by simp only [kX,h]
theorem dw {n k:Nat}(h:k < n):vv n (k:Int)=some k:=by unfold vv;rw [if_pos (by omega),if_pos (by omega)];simp
end Sm
namespace L2
open PySem PySem.Spec PyProof.Rows
theorem tO {α:Type}(l:List α):∀ n,n<=l.length->(List.range n).filterMap (λk=>l[k]?)=l.take n
 | 0,_=>by simp
 | n + 1,h=>by
  have hn:n < l.length:=h;rw [List.range_succ,List.filterMap_append,tO l n (by omega),List.take_add_one];simp [hn]
theorem p9 {α β:Type}{f g:α->Option β}:∀ {l:List α},(∀ x∈l,f x=g x)->l.filterMap f=l.filterMap g
 | [],_=>rfl
 | x::l,h=>by
  rw [yj,yj,h x (.head _),p9 λy hy=>h y (.tail _ hy)]
theorem K0 {α:Type}(l:List α):((List.range l.length).map λk:Nat=>((l.length:Int) - 1 + -1 * (k:Int)).toNat).filterMap (λj=>l.toArray[j]?)=l.reverse:=by
 rw [List.filterMap_map];have h:=tO l.reverse l.length (by simp);rw [show l.reverse.take l.length=l.reverse from by rw [<-yk];exact zv] at h;rw [<-h];refine p9 λk hk=>?_;have SO:=zn.mp hk;have e:((l.length:Int) - 1 + -1 * (k:Int)).toNat=l.length - 1 - k:=by omega
 show l.toArray[((l.length:Int) - 1 + -1 * (k:Int)).toNat]?=_;rw [e,List.getElem?_reverse SO];simp
theorem lz (ay:List Value):slicePick ay.toArray none none (some (-1))=ay.reverse.toArray:=by
 unfold slicePick;have e:sliceBounds none none (some (-1)) ay.toArray.size=((ay.length:Int) - 1,-1,-1):=by
  unfold sliceBounds;simp
 rw [e];have r:sliceRange ((ay.length:Int) - 1) (-1) (-1)=(List.range ay.length).map λk:Nat=>((ay.length:Int) - 1 + -1 * (k:Int)).toNat:=by
  unfold sliceRange;have c:(if (-1:Int) > 0 then (if (ay.length:Int) - 1 < -1 then (-1 - ((ay.length:Int) - 1) + -1 - 1) / -1 else 0) else (if (ay.length:Int) - 1 > -1 then ((ay.length:Int) - 1 - -1 - -1 - 1) / (- -1) else 0))=(ay.length:Int):=by
   rw [if_neg (by decide)];have e1:(- -1:Int)=1:=by decide
   rw [e1,Int.ediv_one];split <;> omega
  simp only [c];simp
 rw [r];exact congrArg List.toArray (K0 ay)
section
variable {X:Cx}{e:Expr}{te:TE} {pos p2 p3 p4:Pos}{j:Nat}
def RD (K:PySem.W.Frag)(te:TE):TE:=fun σ H Q=>te σ H λx H1=>∃ a xs,x=.ref a/\aG K H1 a xs/\∀ p,H1 p=none->Q (.ref p) (upd H1 p (.lst xs.reverse))
theorem tR {K:PySem.W.Frag}(hK:X.K=K)(he:PE X e te):PE X (.Subscript e (.Slice none none (some (.UnaryOp .USub (.Constant (.int 1) j p4) p3)) p2) pos) (RD K te):=by subst hK;intro af s σ H Q I h;refine Subscript_ (aZ (he af s σ H _ I h) λv s1 ⟨x,H1,I1,r1,q1⟩=>?_);have st:PO X (some (.UnaryOp .USub (.Constant (.int 1) j p4) p3)) (lW (Pb (rU λi=>.int (-i)) (tC (.int 1)))):=nq (jX gE xR);refine wpAny_Slice ?_;rw [evalPart_none];refine wpAny_pure (wpAny_pure ?_);refine aZ (st af s1 σ H1 (λo H'=>o=some (-1)/\H'=H1) I1 ⟨1,rfl,-1,rfl,rfl,rfl⟩) λvs s3 h3=>?_;obtain ⟨o,H',I3,ps,rfl,rfl⟩:=h3;have I4:Inv X af σ H' { s3 with heap:=s3.heap.push { cls:=.type "slice", data:=.fields #[.none,.none,vs] } }:=I3.kept (t':=s3.toks) λb ob q=>Heap.get?_push_of_some _ q;obtain ⟨a,xs,rfl,hx,q⟩:=q1;cases r1;obtain ⟨ay,r,ht,hz⟩:=I4.list hx;have hlen:=r.length;show wpAny (model X.prog X.w) X.A (subscriptTail e (.Slice none none (some (.UnaryOp .USub (.Constant (.int 1) j p4) p3)) p2) (.ref a) (.ref s3.heap.objs.size)) (EP X af σ Q) X.xe { s3 with heap:=s3.heap.push { cls:=.type "slice", data:=.fields #[.none,.none,vs] } };refine tail_any (ops:=[.ref a,.ref s3.heap.objs.size]) ht.isList.typeIs slot_list_getitem.lookup ?_ (by with_unfolding_all rfl);refine wpAny_getItem_list_slice ht.isList (Heap.IsSliceOf.new ..) .none .none ps (by simp) ?_ (by rw [zO] <;> omega);rw [lz];refine ⟨.ref _,_,I4.laid (t':=s3.toks) (o:=.lst xs.reverse) (λb ob q=>Heap.get?_push_of_some _ q) (zE _) ?_,rfl,q _ (I4.aY.fresh (zE _))⟩;exact ⟨by rw [yk];exact hz,_,0,r.reverse,Heap.get?_push_size _ rfl⟩
end
end L2
namespace Sm
open PySem L2 aR
abbrev Fn:=Nat->Option Int
def put (f:Fn)(k:Nat)(x:Option Int):Fn:=λi=>if i=k then x else f i
theorem cC {f:Fn}{k:Nat}{x:Option Int}:put f k x k=x:=by unfold put;rw [if_pos rfl]
theorem wz {f:Fn}{k i:Nat}{x:Option Int}(h:i≠k):put f k x i=f i:=by unfold put;rw [if_neg h]
def aE (k:Nat)(x:Int):Fn:=λi=>if i=k then some x else none
def below (o:Option Int)(t:Int):Bool:=match o with
 | some y=>decide (y < t)
 | none=>false
theorem aK {o:Option Int}{t:Int}:below o t=true↔∃ y,o=some y/\y < t:=by cases o <;> simp [below]
def bX (o:Option Int)(t:Int):Bool:=match o with
 | some y=>decide (y<=t)
 | none=>false
theorem bJ {o:Option Int}{t:Int}:bX o t=true↔∃ y,o=some y/\y<=t:=by cases o <;> simp [bX]
structure W3 where
 g:Nat
 o:Nat
 t:Int
def two (m:M4):List W3:=[⟨m.lo.toNat,m.hi.toNat,m.t⟩,⟨m.hi.toNat,m.lo.toNat,m.t⟩]
def aV (ms:List M4):List W3:=ms.flatMap two
def aJ (st:Fn)(x:W3):Fn:=if st x.o=none/\below (st x.g) x.t=true then put st x.o (some x.t) else st
def fwd (ms:List M4)(st:Fn):Fn:=(aV ms).foldl aJ st
theorem LS (m:M4)(ms:List M4)(st:Fn):fwd (m::ms) st=fwd ms (aJ (aJ st ⟨m.lo.toNat,m.hi.toNat,m.t⟩) ⟨m.hi.toNat,m.lo.toNat,m.t⟩):=by unfold fwd aV;rw [List.flatMap_cons,xA];rfl
theorem kj {st:Fn}{x:W3}{i:Nat}{y:Int}(h:st i=some y):aJ st x i=some y:=by
 unfold aJ;split
 ·rename_i c;by_cases e:i=x.o
  ·rw [e,c.1] at h;cases h
  ·rw [wz e];exact h
 ·exact h
theorem vH {st:Fn}{x:W3}(hs:∀ i y,st i=some y->y<=x.t\/∀ j,st j≠none->j=i)(qL:x.g≠x.o):∀ i y,aJ st x i=some y->y<=x.t\/∀ j,aJ st x j≠none->j=i:=by
 unfold aJ;split
 ·rename_i c;obtain ⟨z,hz,zt⟩:=aK.mp c.2;intro i y h;by_cases e:i=x.o
  ·rw [e,cC] at h;cases h;exact .inl (zx _)
  ·rw [wz e] at h;rcases hs i y h with q | q
   ·exact .inl q
   ·have:x.g=i:=q x.g (by rw [hz];simp);rw [<-this,hz] at h;cases h;exact .inl (by omega)
 ·exact hs
def Ord (t:Int)(ms:List M4):Prop:=(∀ m∈ms,t<=m.t/\m.lo.toNat≠m.hi.toNat)/\ms.Pairwise λa b=>a.t<=b.t
theorem Good.ord {w:Int}{ms:List M4}(g:Good w ms):Ord 1 ms:=by
 refine ⟨λm hm=>?_,g.order.imp λh=>?_⟩
 ·obtain ⟨a1,a2,a3,a4,_⟩:=g.each m hm;exact ⟨a4,by omega⟩
 ·rcases h with h | h
  ·omega
  ·omega
def rep (n:Nat)(f:Fn):List (Option Int):=(List.range n).map f
theorem wg (n:Nat)(f:Fn):(rep n f).length=n:=by simp [rep]
theorem jC {n k:Nat}{f:Fn}(h:k < n):(rep n f)[k]?=some (f k):=by simp [rep,h]
theorem we {n k:Nat}{f:Fn}(h:k < n):((rep n f).map oV)[k]?=some (oV (f k)):=by rw [zD,jC h];rfl
theorem fR {n k:Nat}{f:Fn}{x:Option Int}(h:k < n):(rep n f).set k x=rep n (put f k x):=by
 apply List.ext_getElem?
 intro i;rw [List.getElem?_set];by_cases e:k=i
 ·subst e;rw [if_pos rfl,if_pos (by rw [wg];exact h),jC h,cC]
 ·rw [if_neg e];by_cases hi:i < n
  ·rw [jC hi,jC hi,wz λz=>e z.symm]
  ·rw [List.getElem?_eq_none (by rw [wg];omega),List.getElem?_eq_none (by rw [wg];omega)]
structure W4 where
 n:Nat
 w:W3
def W4.vs (x:W4):List V:=[.int x.n,.int x.w.g,.int x.w.o,.int x.w.t]
def cU (ms:List M4):Nat->List W4
 | 0=>[]
 | i + 1=>cU ms i++(match ms[i]? with
  | some m=>[⟨i,⟨m.lo.toNat,m.hi.toNat,m.t⟩⟩,⟨i,⟨m.hi.toNat,m.lo.toNat,m.t⟩⟩]
  | none=>[])
theorem jJ {ms:List M4}{i:Nat}{m:M4}(h:ms[i]?=some m):cU ms (i + 1)=cU ms i++[⟨i,⟨m.lo.toNat,m.hi.toNat,m.t⟩⟩,⟨i,⟨m.hi.toNat,m.lo.toNat,m.t⟩⟩]:=by
 conv=>lhs;unfold cU
 rw [h]
theorem jI (ms:List M4):∀ i,i<=ms.length->(cU ms i).map (·.w)=aV (ms.take i)
 | 0,_=>by simp [cU,aV]
 | i + 1,h=>by
  have hi:i < ms.length:=h;have e:ms[i]?=some ms[i]:=by simp [hi]
  rw [jJ e,zG,jI ms i (by omega),wM e];unfold aV;rw [List.flatMap_append];rfl
theorem uE (ms:List M4):(cU ms ms.length).map (·.w)=aV ms:=by rw [jI ms _ (zE _),zv]
theorem uF (ms:List M4):(aV ms).length=2 * ms.length:=by
 induction ms with
 | nil=>rfl
 | cons m ms ih=>
  have:aV (m::ms)=two m++aV ms:=by unfold aV;rw [List.flatMap_cons]
  rw [this,zN,ih,ze];show 2 + _=_;omega
theorem iP {w:Int}{ms:List M4}(g:Good w ms){x:W3}(h:x∈aV ms):(x.g:Int) < w/\(x.o:Int) < w/\1<=x.t/\x.t<=1000000000/\x.g≠x.o:=by
 unfold aV at h;obtain ⟨m,hm,hx⟩:=List.mem_flatMap.mp h;obtain ⟨a1,a2,a3,a4,a5,_⟩:=g.each m hm;unfold two at hx;simp only [zK,zj,or_false] at hx;rcases hx with rfl | rfl
 ·exact ⟨by show (m.lo.toNat:Int) < w;omega,by show (m.hi.toNat:Int) < w;omega,a4,a5,by show m.lo.toNat≠m.hi.toNat;omega⟩
 ·exact ⟨by show (m.hi.toNat:Int) < w;omega,by show (m.lo.toNat:Int) < w;omega,a4,a5,by show m.hi.toNat≠m.lo.toNat;omega⟩
theorem gM {o:Option Int}:(oV o=.bD)↔o=none:=by cases o <;> simp [oV]
def Nc:Sp:=λvs H Q _=>∃ o t,vs=[oV o,.int t]/\Q (.bl (below o t)) H
def Pf:Sp:=λvs H Q _=>∃ o t,vs=[oV o,.int t]/\Q (.bl (bX o t)) H
def Pk:Sp:=λvs H Q _=>∃ b,∃ k:Nat,∃ x aa tr tm ps,vs=[.ref b,.int k,.int x]/\aL H b aa tr tm ps/\aa.length<=1000/\∀ l H',H l=none->au H H'->H' l=some (.lst ((rep aa.length (aE k x)).map oV))->Q (.ref l) H'
def Pe:Sp:=λvs H Q _=>∃ b aa tr tm ps,vs=[.ref b]/\aL H b aa tr tm ps/\Good aa.length (ps.map (·.2))/\∀ l (ws:List (Addr×W4)) H',H l=none->au H H'->H' l=some (.lst (ws.map λa=>V.ref a.1))->(∀ a∈ws,H' a.1=some (.tup a.2.vs))->ws.map (·.2)=cU (ps.map (·.2)) ps.length->Q (.ref l) H'
def tF:Sp:=λvs H Q _=>∃ b,∃ k:Nat,∃ x aa tr tm ps,vs=[.ref b,.int k,.int x]/\k < aa.length/\aL H b aa tr tm ps/\aa.length<=1000/\Good aa.length (ps.map (·.2))/\∀ l H',H l=none->au H H'->H' l=some (.lst ((rep aa.length (fwd (ps.map (·.2)) (aE k x))).map oV))->Q (.ref l) H'
end Sm
namespace L2
open PySem PySem.Spec PyProof.Rows
section
variable {n:Nat}{caps:List Nat}{g:TG}{tc:TT}{te:TE}{σ:St}{H:Hp}{Qf:Addr->Hp->List V->Prop}
theorem gO {lo:Int}{m:Nat}(Pv:Nat->St->List V->Hp->Prop)(h0:Pv 0 (gZ n caps σ) [] H)(hn:m<=1000)(hl:∀ i τ acc H,Pv i τ acc H->acc.length<=i)
  (hs:∀ i τ acc H (C:St->List V->Hp->Prop),i < m->Pv i τ acc H->(∀ τ acc H,Pv (i + 1) τ acc H->C τ acc H)->g (.int (lo + i)) τ H fun cy H2=>tc cy H2 λb H3=>if b=true then te cy H3 λy H4=>C cy (acc++[y]) H4 else C cy acc H3)
  (hd:∀ τ acc H,Pv m τ acc H->∀ p,H p=none->Qf p H acc) :
  ∃ W:Nat->Nat->St->List V->Hp->Prop,(∃ m,W 0 m (gZ n caps σ) [] H)/\∀ i m' τ acc H,W i m' τ acc H ->
   ((MF lo m).stop i H/\acc.length<=sizeLine/\∀ p,H p=none->Qf p H acc) \/
   ((MF lo m).go i H/\acc.length < sizeLine/\∀ x H',(MF lo m).qx i H x H'->g x τ H' fun cy H2=>tc cy H2 λb H3=>if b=true then te cy H3 λy H4=>∃ Se,Se < m'/\W (i + 1) Se cy (acc++[y]) H4 else ∃ Se,Se < m'/\W (i + 1) Se cy acc H3):=
 jF (J:=MF lo m) Pv m h0 hn hl (λi τ acc H hi p=>hi) (fun τ acc H p=>zE _)
  (λi τ acc H C hi p c x H' y=>by obtain ⟨e1,e2⟩:=y;subst e1;subst e2;exact hs i τ acc _ C hi p c) hd
end
end L2
namespace Sm
open PySem L2 aR
def run (ws:List W3)(st:Fn):Fn:=ws.foldl aJ st
theorem cX:∀ {ws:List W3}{st:Fn}{i:Nat}{y:Int},st i=some y->run ws st i=some y
 | [],_,_,_,h=>h
 | w::ws,st,i,y,h=>cX (ws:=ws) (kj h)
theorem ie:∀ {ws:List W3}{st:Fn}{i:Nat}{t:Int},run ws st i=some t->st i=none->∃ x∈ws,x.o=i/\x.t=t/\∃ y,run ws st x.g=some y/\y < t
 | [],st,i,t,h,h0=>by
  have:st i=some t:=h;rw [h0] at this;cases this
 | w::ws,st,i,t,h,h0=>by
  have h':run ws (aJ st w) i=some t:=h;cases e:aJ st w i with
  | none=>
   obtain ⟨x,hx,a,b,y,hy,lt⟩:=ie h' e;exact ⟨x,.tail _ hx,a,b,y,hy,lt⟩
  | some z=>
   have z':=cX (ws:=ws) e;rw [h'] at z';cases z';unfold aJ at e;split at e
   ·rename_i c;by_cases io:i=w.o
    ·subst io;rw [cC] at e;cases e;obtain ⟨y,hy,lt⟩:=aK.mp c.2;exact ⟨w,.head _,rfl,rfl,y,cX (ws:=w::ws) hy,lt⟩
    ·rw [wz io,h0] at e;cases e
   ·rw [h0] at e;cases e
theorem jR:∀ {ws:List W3}{st:Fn},(∀ x∈ws,x.g≠x.o)->ws.Pairwise (λa b=>a.t<=b.t)->(∀ x∈ws,∀ i y,st i=some y->y<=x.t\/∀ j,st j≠none->j=i) ->
  ∀ x∈ws,∀ y,run ws st x.g=some y->y < x.t->∃ e,run ws st x.o=some e/\e<=x.t
 | w::ws,st,ne,pw,hs,x,hx,y,hy,lt=>by
  obtain ⟨p1,p2⟩:=List.pairwise_cons.mp pw;rcases zK.mp hx with rfl | hx
  ·cases e:st x.g with
   | none=>
    obtain ⟨z,hz,a,b,_⟩:=ie (ws:=x::ws) hy e;rcases zK.mp hz with rfl | hz
    ·exact absurd a.symm (ne z (.head _))
    ·have:=p1 z hz;omega
   | some z=>
    have:=cX (ws:=x::ws) e;rw [hy] at this;cases this;cases eo:st x.o with
    | none=>
     refine ⟨x.t,?_,zx _⟩;show run ws (aJ st x) x.o=some x.t;refine cX ?_;unfold aJ;rw [if_pos ⟨eo,aK.mpr ⟨y,e,lt⟩⟩,cC]
    | some z=>
     refine ⟨z,cX (ws:=x::ws) eo,?_⟩;rcases hs x (.head _) _ _ eo with q | q
     ·exact q
     ·exact absurd (q x.g (by rw [e];simp)) (ne x (.head _))
  ·refine jR (ws:=ws) (st:=aJ st w) (λa ha=>ne a (.tail _ ha)) p2 (λa ha i z hz=>?_) x hx y hy lt;have base:∀ i y,st i=some y->y<=w.t\/∀ j,st j≠none->j=i:=hs w (.head _);rcases vH (x:=w) base (ne w (.head _)) i z hz with q | q
   ·exact .inl (xE q (p1 a ha))
   ·exact .inr q
theorem oJ:∀ {ms:List M4},ms.Pairwise (λa b=>a.t<=b.t)->(aV ms).Pairwise (λa b=>a.t<=b.t)
 | [],_=>.nil
 | m::ms,h=>by
  obtain ⟨h1,h2⟩:=List.pairwise_cons.mp h;have e:aV (m::ms)=two m++aV ms:=by unfold aV;rw [List.flatMap_cons]
  rw [e,List.pairwise_append];refine ⟨?_,oJ h2,λa ha b hb=>?_⟩
  ·unfold two;refine .cons (λx hx=>?_) (List.pairwise_singleton _ _);cases zP.mp hx;exact zx _
  ·have ta:a.t=m.t:=by
    unfold two at ha;simp only [zK,zj,or_false] at ha;rcases ha with rfl | rfl <;> rfl
   unfold aV at hb;obtain ⟨r,hr,hx⟩:=List.mem_flatMap.mp hb;have tb:b.t=r.t:=by
    unfold two at hx;simp only [zK,zj,or_false] at hx;rcases hx with rfl | rfl <;> rfl
   rw [ta,tb];exact h1 r hr
structure TZ (w:Nat) (ws:List W3) (s:Nat) (x:Int) (E:Fn):Prop where
 self:E s=some x
 aaA:∀ i t,i≠s->E i=some t->∃ a∈ws,a.o=i/\a.t=t/\∃ y,E a.g=some y/\y < t
 kF:∀ a∈ws,∀ y,E a.g=some y->y < a.t->∃ e,E a.o=some e/\e<=a.t
 inside:∀ a∈ws,a.g < w/\a.o < w
theorem mQ {n s:Nat}{x:Int}{ms:List M4}(g:Good n ms):TZ n (aV ms) s x (fwd ms (aE s x)):=by
 refine ⟨?_,λi t ne h=>?_,?_,λa ha=>?_⟩
 ·exact cX (ws:=aV ms) (by simp [aE])
 ·exact ie (ws:=aV ms) h (by simp [aE,ne])
 ·refine jR (λa ha=>(iP g ha).2.2.2.2) (oJ g.ord.2) (λa ha i y h=>.inr λj hj=>?_);unfold aE at h hj;by_cases e:i=s
  ·by_cases e':j=s
   ·rw [e,e']
   ·rw [if_neg e'] at hj;exact absurd rfl hj
  ·rw [if_neg e] at h;cases h
 ·obtain ⟨a1,a2,_⟩:=iP g ha;omega
def lZ (n:Nat)(E:Fn)(t:Int):Nat:=(List.range n).countP λj=>below (E j) t
end Sm
namespace L2
open PySem PySem.Spec PyProof.Rows
section
variable {X:Cx}{af:List (Addr×Obj)}{σ:St}{H:Hp}{s:Shared}
theorem Inv.keptAll {m:Str->Option Value}{h':Heap}{tk:Nat}(I:Inv X af σ H s)(F0:Fr X.base X.env.locals s.heap m)(F:Fr X.base X.env.locals h' m)
  (N:News X.base X.env.locals h' (eB X.base s.heap X.env.locals)):Inv X af σ H { s with heap:=h',toks:=tk }:=by
 have keep:∀ b o,b≠X.env.locals->s.heap.get? b=some o->h'.get? b=some o:=λb o hb e=>by
  cases q:X.base.get? b with
  | some u=>
   have:=I.bk b u q;rw [e] at this;cases this;exact F.keep b _ q
  | none=>exact (N (b,o) (dm hb q e)).1
 refine I.step (g':=s.gens) (t':=tk) (d':=s.drawn) (ch:=[]) (λ_ z=>nomatch z) (λb o hb _ _ e _=>keep b o hb e) (λb o hb _ _ e _=>⟨o.slots,keep b o hb e⟩) (λb o _ e n=>n) (λb o _ e=>?_)
  (λb ys e=>e) (λb o u e=>e) (λb ps e=>⟨#[],by rw [e,Array.append_empty]⟩) (λm' hm=>?_) (λb u e=>?_) I.bare
 ·by_cases hb:b=X.env.locals
  ·obtain ⟨o',_,_,q,_⟩:=F.ns;exact ⟨o',by rw [hb];exact q⟩
  ·exact ⟨o,keep b o hb e⟩
 ·obtain ⟨o1,OQ,ep1,e1,d1,k1,f1⟩:=hm;obtain ⟨o2,es2,ep2,e2,d2,k2,f2⟩:=F0.ns;rw [e1] at e2;cases e2;rw [d1] at d2;cases d2;obtain ⟨o3,Yc,Yd,e3,d3,k3,f3⟩:=F.ns;exact ⟨o3,Yc,Yd,e3,d3,k3,λname=>(f3 name).trans ((f2 name).symm.trans (f1 name))⟩
 ·refine (I.aY b u e).fh (λc v hc q=>keep c v (λz=>?_) q) (λc q=>q) λc ys q=>q;rcases hc with rfl | hc
  ·rw [z,I.free] at e;cases e
  ·rw [z,I.free] at hc;cases hc
theorem kI:∀ {bs:List Bool}{us:List Value},Vals (bs.map V.bl) us->LSm.BoolsAre us bs
 | [],us,r=>by cases r;exact .nil
 | b::bs,us,r=>by
  cases r with
  | cons x y=>
   cases x;exact .cons b (kI y)
theorem kH {K:PySem.W.Frag}(hK:X.K=K)(hc:X.calm=true):dc X (.builtin "all") (λxs H Q=>∃ p,∃ bs:List Bool,xs=[.ref p]/\aG K H p (bs.map V.bl)/\Q (.bl (bs.all id)) H):=by subst hK;intro af s σ H xs us Q I r h;obtain ⟨p,bs,rfl,hq,q⟩:=h;obtain ⟨u,rfl,rx⟩:=vals1 r;cases rx;obtain ⟨ay,r',pl,hz⟩:=I.list hq;obtain ⟨m,F⟩:=I.fr;exact LSm.all_bools F (j6 (g:=X.base) (h:=s.heap)) (I.ok.hd hc) pl.isList (kI r') λh' tk F' N'=>⟨.bl _,H,I.keptAll F F' N',rfl,q⟩
end
end L2
namespace Sm
open PySem L2 aR
def cK (ms:List M4)(n g o:Nat)(t:Int):Prop:=∃ m,ms[n]?=some m/\m.t=t/\((m.lo.toNat=g/\m.hi.toNat=o)\/(m.lo.toNat=o/\m.hi.toNat=g))
theorem dR {ms:List M4}:∀ {i:Nat}{x:W4},x∈cU ms i->cK ms x.n x.w.g x.w.o x.w.t
 | 0,x,h=>by cases h
 | i + 1,x,h=>by
  unfold cU at h;rcases zT.mp h with h | h
  ·exact dR h
  ·cases e:ms[i]? with
   | none=>rw [e] at h;cases h
   | some m=>
    rw [e] at h;simp only [zK,zj,or_false] at h;rcases h with rfl | rfl
    ·exact ⟨m,e,rfl,.inl ⟨rfl,rfl⟩⟩
    ·exact ⟨m,e,rfl,.inr ⟨rfl,rfl⟩⟩
def lN (ms:List M4)(k:Nat)(f:Fn)(aF:List (Key×V))(H:Hp):Prop:=
 ∀ o t,f o=some t->o=k\/∃ tt n g y,cV aF (Sum.inl (o:Int))=some (.ref tt)/\H tt=some (.tup [.int ((n:Nat):Int),.int ((g:Nat):Int)])/\cK ms n g o t/\f g=some y/\y < t
theorem lN.aQ {ms:List M4}{k:Nat}{f:Fn}{aF:List (Key×V)}{H H':Hp}(c:lN ms k f aF H)(t:bC H H'):lN ms k f aF H':=λo x h=>by
 rcases c o x h with e | ⟨tt,n,g,y,a1,a2,a3,a4,a5⟩
 ·exact .inl e
 ·exact .inr ⟨tt,n,g,y,a1,t _ _ a2,a3,a4,a5⟩
theorem lN.step {ms:List M4}{k:Nat}{f:Fn}{aF:List (Key×V)}{H:Hp}{tt:Addr}{x:W4}(c:lN ms k f aF H)(ho:f x.w.o=none)(hb:below (f x.w.g) x.w.t=true)(hl:cK ms x.n x.w.g x.w.o x.w.t)
  (ht:H tt=some (.tup [.int (x.n:Int),.int (x.w.g:Int)])):lN ms k (put f x.w.o (some x.w.t)) (putK aF (Sum.inl (x.w.o:Int)) (.ref tt)) H:=λo t h=>by
 have keep:∀ g y,f g=some y->put f x.w.o (some x.w.t) g=some y:=λg y e=>by rw [wz λz=>by rw [z,ho] at e;cases e];exact e
 by_cases e:o=x.w.o
 ·subst e;rw [cC] at h;cases h;obtain ⟨y,hy,lt⟩:=aK.mp hb;exact .inr ⟨tt,x.n,x.w.g,y,by rw [oM,if_pos rfl],ht,hl,keep _ _ hy,lt⟩
 ·rw [wz e] at h;rcases c o t h with e' | ⟨t2,n,g,y,a1,a2,a3,a4,a5⟩
  ·exact .inl e'
  ·refine .inr ⟨t2,n,g,y,?_,a2,a3,keep _ _ a4,a5⟩;rw [oM,if_neg λz=>e (by have:=Sum.inl.inj z;omega)];exact a1
def KO:Sp:=λvs H Q _=>∃ b,∃ k:Nat,∃ x aa tr tm ps,vs=[.ref b,.int k,.int x]/\aL H b aa tr tm ps/\aa.length<=1000/\Good aa.length (ps.map (·.2))/\∀ t l d aF H',H l=none->au H H'->H' t=some (.tup [.ref l,.ref d])->H' l=some (.lst ((rep aa.length (fwd (ps.map (·.2)) (aE k x))).map oV))->H' d=some (.dK aF)->lN (ps.map (·.2)) k (fwd (ps.map (·.2)) (aE k x)) aF H'->Q (.ref t) H'
def lP (ms:List M4):Nat->Int->Int->List Int->Option (Nat×Int)
 | v,t,_,[]=>some (v,t)
 | v,t,a,n::ns=>match ms[n.toNat]? with
  | none=>none
  | some m=>if a < n/\0<=n/\(v=m.lo.toNat\/v=m.hi.toNat)/\t < m.t then lP ms (if v=m.lo.toNat then m.hi.toNat else m.lo.toNat) m.t n ns else none
theorem uG {ms:List M4}{n g o:Nat}{y t a:Int}{ns:List Int}(h:cK ms n g o t)(ne:g≠o)(lt:y < t)(ha:a < n):lP ms g y a ((n:Int)::ns)=lP ms o t n ns:=by
 obtain ⟨m,hm,rfl,h⟩:=h
 conv=>lhs;unfold lP
 rw [show ((n:Int)).toNat=n from by simp,hm];dsimp only;rcases h with ⟨rfl,rfl⟩ | ⟨rfl,rfl⟩
 ·rw [if_pos ⟨ha,by omega,.inl rfl,lt⟩,if_pos rfl]
 ·rw [if_pos ⟨ha,by omega,.inr rfl,lt⟩,if_neg λz=>ne z]
theorem bC.Wh {l:Addr}{H:Hp}{aF:List (Key×V)}{o:HO}(h:H l=some (.dK aF)):bC H (upd H l o):=λb u e=>by rw [xX (bY e h (by intro z;cases z))];exact e
theorem Qh {ms:List M4}(o:ms.Pairwise λa b=>a.t<=b.t){i j:Nat}{a b:M4}(hi:ms[i]?=some a)(hj:ms[j]?=some b)(lt:a.t < b.t):i < j:=by
 obtain ⟨h1,e1⟩:=zC.mp hi;obtain ⟨h2,e2⟩:=zC.mp hj;rcases Nat.lt_trichotomy i j with h | h | h
 ·exact h
 ·subst h;rw [e1] at e2;rw [e2] at lt;omega
 ·have:=yU.mp o j i h2 h1 h;rw [e1,e2] at this;omega
def mu (n:Nat)(E:Fn)(σ:St):Nat:=match σ[9]? with
 | some (some (V.int v))=>(match E v.toNat with
  | some e=>lZ n E e
  | none=>0)
 | _=>0
theorem Nn {n:Nat}{E:Fn}{g:Nat}{y t:Int}(hg:g < n)(hy:E g=some y)(lt:y < t):lZ n E y < lZ n E t:=
 i7 (λj hj=>by
  obtain ⟨z,hz,l⟩:=aK.mp hj;exact aK.mpr ⟨z,hz,by omega⟩) (zn.mpr hg) (by
   cases c:below (E g) y with
   | false=>rfl
   | true=>
    obtain ⟨z,hz,l⟩:=aK.mp c;rw [hy] at hz;cases hz;omega) (aK.mpr ⟨y,hy,lt⟩)
theorem Np (n:Nat)(E:Fn)(t:Int):lZ n E t<=n:=by unfold lZ;have:=List.countP_le_length (p:=λj=>below (E j) t) (l:=List.range n);rw [yJ] at this;exact this
theorem cK.inside {n g o w:Nat}{t:Int}{ms:List M4}(g0:Good w ms)(h:cK ms n g o t):g < w/\o < w/\g≠o:=by obtain ⟨m,hm,_,h⟩:=h;obtain ⟨a1,a2,a3,_⟩:=g0.each m (zB hm);rcases h with ⟨rfl,rfl⟩ | ⟨rfl,rfl⟩ <;> omega
def mZ (H:Hp)(lt:Addr)(n s w:Nat)(a z:Int):Prop:=H lt=some (.tup [.int (s:Int),.int a,.int (w:Int),.int z])/\s < n/\w < n/\0<=a/\a<=1000000000/\0<=z/\z<=1000000000
theorem mZ.th {H:Hp}{lt:Addr}{n s w:Nat}{a z:Int}(h:mZ H lt n s w a z):Th H (.ref lt) (some [.int (s:Int),.int a,.int (w:Int),.int z]):=.inr ⟨lt,_,rfl,h.1,λe he=>by
 simp only [zK,zj,or_false] at he;rcases he with rfl | rfl | rfl | rfl <;> exact ⟨_,rfl⟩,rfl⟩
theorem mZ.yes {H:Hp}{lt:Addr}{n s w:Nat}{a z:Int}(h:mZ H lt n s w a z):isLet n (some [.int (s:Int),.int a,.int (w:Int),.int z])=true:=by obtain ⟨_,h1,h2,h3,h4,h5,h6⟩:=h;simp only [isLet,oF,zb,decide_eq_true_eq];omega
def rM:Sp:=λvs H Q _=>∃ b lt,∃ s w:Nat,∃ a z aa tr tm ps,vs=[.ref b,.ref lt]/\aL H b aa tr tm ps/\aa.length<=1000/\Good aa.length (ps.map (·.2))/\mZ H lt aa.length s w a z /\
 (bX (fwd (ps.map (·.2)) (aE s a) w) z=false->∀ H',au H H'->Q .bD H') /\
 (∀ e l ns H',fwd (ps.map (·.2)) (aE s a) w=some e->e<=z->H l=none->au H H'->H' l=some (.lst (List.map V.int ns))->ns.length<=1000->lP (ps.map (·.2)) s a (-1) ns=some (w,e)->Q (.ref l) H')
theorem br.same {H H':Hp}{p:Addr}(h:br H p)(e:au H H'):br H' p:=by obtain ⟨x,y,z,q⟩:=h;exact ⟨x,y,z,e _ _ q⟩
def uu (ws:List W3)(f:Fn):Bool:=ws.all λx=>!(below (f x.g) x.t) || bX (f x.o) x.t
def uz (ms:List M4)(s w:Nat)(a z:Int)(f:Fn):Bool:=bX (f s) a && (!bX (f w) z && uu (aV ms) f)
def uO:Sp:=λvs H Q _=>∃ b,∃ k:Nat,∃ v:Int,∃ aa tr tm ps,∃ m:M4,vs=[.ref b,.int k,.int v]/\aL H b aa tr tm ps/\(ps.map (·.2))[k]?=some m/\Q (.int (if v=m.lo then m.hi else m.lo)) H
def Nd:Sp:=λvs H Q _=>∃ b lt l f,∃ s w:Nat,∃ a z aa tr tm ps,vs=[.ref b,.ref lt,.ref l]/\aL H b aa tr tm ps/\aa.length<=1000/\Good aa.length (ps.map (·.2))/\mZ H lt aa.length s w a z/\H l=some (.lst ((rep aa.length f).map oV))/\uz (ps.map (·.2)) s w a z f=true/\∀ H',au H H'->Q (.bl true) H'
theorem nU {n s:Nat}{x:Int}{ms:List M4}(g:Good n ms):uu (aV ms) (fwd ms (aE s x))=true:=by
 refine xD.mpr λa ha=>?_;cases h:below (fwd ms (aE s x) a.g) a.t with
 | false=>rfl
 | true=>
  obtain ⟨y,hy,lt⟩:=aK.mp h;obtain ⟨e,he,le⟩:=(mQ (s:=s) (x:=x) g).kF a ha y hy lt;rw [bJ.mpr ⟨e,he,le⟩];rfl
end Sm
namespace L2
open PySem PySem.Spec PyProof.Rows
def Of (K:PySem.W.Frag)(a b:Addr):It:=
 ⟨λi H=>∃ xs ys x y,aG K H a xs/\aG K H b ys/\xs[i]?=some x/\ys[i]?=some y,λi H v H'=>∃ p x y,H p=none/\v=.ref p/\H'=upd H p (.tup [x,y])/\∀ xs ys,aG K H a xs->aG K H b ys->xs[i]?=some x/\ys[i]?=some y,
  λi H=>∃ xs ys,aG K H a xs/\aG K H b ys/\(xs.length<=i\/ys.length<=i)⟩
theorem uH {P:Program}{w:World}{K:PySem.W.Frag}{es:List Expr}{k:Nat}{pos:Pos}(l1 l2 z TI TO i1 i2:Addr)(ap:ZipApart z TI TO i1 i2 l1 l2) :
  Turn P w K (.Tuple es k pos) (Of K l1 l2) [z,TI,TO,i1,i2] z (λi h=>IsZip h z TI TO .none/\IsPair h TI (.ref i1) (.ref i2)/\(∃ a b,IsPair h TO a b)/\h.IsListIter i1 l1 i/\h.IsListIter i2 l2 i) where
 mem:=by simp
 obj:=λi h st b hb=>by
  obtain ⟨hz,LN,⟨a,c,MV⟩,⟨o1,g1,c1,d1⟩,⟨o2,g2,c2,d2⟩⟩:=st;simp only [zK,zj,or_false] at hb;rcases hb with e | e | e | e | e <;> subst e
  ·exact ⟨_,hz,λv q=>nomatch q⟩
  ·exact ⟨_,LN,λv q=>nomatch q⟩
  ·exact ⟨_,MV,λv q=>nomatch q⟩
  ·exact ⟨o1,g1,λv q=>by rw [d1] at q;cases q⟩
  ·exact ⟨o2,g2,λv q=>by rw [d2] at q;cases q⟩
 keep:=λi h h' st q=>by
  obtain ⟨hz,LN,⟨a,c,MV⟩,⟨o1,g1,r1⟩,⟨o2,g2,r2⟩⟩:=st;exact ⟨q z (by simp) _ hz,q TI (by simp) _ LN,⟨a,c,q TO (by simp) _ MV⟩,⟨o1,q i1 (by simp) o1 g1,r1⟩,⟨o2,q i2 (by simp) o2 g2,r2⟩⟩
 item:=by
  intro X hP hw hK hc i af s σ H E I hf st hg;subst hP hw hK;obtain ⟨xs,ys,x,y,OC,OB,hx,hy⟩:=hg;obtain ⟨Sl,Ud,p1,Uy⟩:=I.list OC;obtain ⟨cE,Om,p2,Ux⟩:=I.list OB;obtain ⟨u,hu,ru⟩:=Ud.get hx;obtain ⟨v,hv,rv⟩:=Om.get hy;obtain ⟨hZ,LN,⟨a0,c0,MV⟩,MS,LK⟩:=st;have fp:=λb hb=>hf b hb;have lt:∀ b,b∈[z,TI,TO,i1,i2]->b < s.heap.objs.size:=λb hb=>by
   simp only [zK,zj,or_false] at hb;rcases hb with e | e | e | e | e <;> subst e
   ·exact Heap.lt_size hZ
   ·exact Heap.lt_size LN
   ·exact Heap.lt_size MV
   ·exact let ⟨_,z,_⟩:=MS;Heap.lt_size z
   ·exact let ⟨_,z,_⟩:=LK;Heap.lt_size z
  refine wpAny_pyNext_zip_item ap hZ LN MV MS LK p1.isList p2.isList (x:=u) (y:=v) (by simpa using hu) (by simpa using hv) λh1 hZ1 XS XA Xz hT hsz hk=>?_;refine ⟨_,rfl,?_⟩;refine wpAny_letOwnedTupleGo_zip hZ1 λh2 hZ2 tZ=>?_;have iY:Heap.SameBut z h1 h2:=tZ;have cP:∀ b o,b ∉ [z,TO,i1,i2]->s.heap.get? b=some o->h2.get? b=some o:=λb o hb q=>by
   simp only [zK,zj,or_false,not_or] at hb;exact iY.extBut b o hb.1 (hk b o hb.1 hb.2.1 hb.2.2.1 hb.2.2.2 q)
  have OL:h2.get? s.heap.objs.size=some { cls:=.type "tuple", data:=.seq #[u,v] }:=iY.extBut _ _ (yZ (lt z (by simp))) hT;have nT:H s.heap.objs.size=none:=I.aY.fresh (zE _);have sub:∀ b,b∈[z,TO,i1,i2]->b∈[z,TI,TO,i1,i2]:=λb hb=>by
   simp only [zK,zj,or_false] at hb ⊢;rcases hb with e | e | e | e <;> simp [e]
  refine ⟨.ref s.heap.objs.size,upd H s.heap.objs.size (.tup [x,y]),?_,rfl,⟨_,x,y,nT,rfl,rfl,λys' zs' h1 h2=>by rw [I.iz h1 OC,I.iz h2 OB];exact ⟨hx,hy⟩⟩,⟨hZ2,?_,⟨u,v,?_⟩,?_,?_⟩,λb hb=>?_⟩
  ·refine Inv.step (s:=s) (h':=h2) (g':=s.gens) (d':=s.drawn) (t':=s.toks) (ch:=[z,TO,i1,i2]) I (λb hb=>?_) (λb o _ _ hb q _=>cP b o hb q) (λb o _ _ hb q _=>⟨o.slots,cP b o hb q⟩)
    (λb o _ q n=>by rw [xX (zW (Heap.lt_size q))];exact n) (λb o hb q=>⟨o,cP b o hb q⟩)
    (λb ys q=>by rw [xX (xT q nT)];exact q) (λb o v q=>by rw [xX (xT q nT)];exact q) (λb ps q=>⟨#[],by rw [xX (xT q nT),q];simp⟩)
    (λm hm=>by
     obtain ⟨o,jB,ep,q,r⟩:=hm;exact ⟨o,jB,ep,cP _ o (λhb=>(fp _ (sub _ hb)).2.1 rfl) q,r⟩) (λb v' q=>?_) I.bare
   ·obtain ⟨e0,e1,e2,e3,e4,e5⟩:=fp b (sub b hb);exact ⟨e3,e1,e4,e5⟩
   ·by_cases hb:b=s.heap.objs.size
    ·subst hb;rw [xS] at q;cases q;exact ⟨⟨by show 2<=sizeLine;rw [sizeLine_eq];decide,λob e=>by rw [OL] at e;cases e;rfl⟩,[u,v],.cons ru (.cons rv .nil),⟨_,OL,rfl,_,rfl⟩⟩
    ·rw [xX hb] at q;refine (I.aY b v' q).fh (λc ob hc qc=>cP c ob (λhb=>?_) qc) (λc qc=>by rw [xX (xT qc nT)];exact qc) λc ys qc=>by rw [xX (xT qc nT)];exact qc
     have e0:=(fp c (sub c hb)).1;rcases hc with z | z
     ·subst z;exact xT q e0 rfl
     ·exact xT z e0 rfl
  ·exact cP _ _ (by simp only [zK,zj,or_false,not_or];exact ⟨ap.TIz,ap.TITO,ap.TIi1,ap.TIi2⟩) LN
  ·exact iY.extBut _ _ ap.TOz XS
  ·obtain ⟨o,q,r⟩:=XA;exact ⟨o,iY.extBut i1 o ap.i1z q,r⟩
  ·obtain ⟨o,q,r⟩:=Xz;exact ⟨o,iY.extBut i2 o ap.i2z q,r⟩
  ·rw [xX (zW (lt b hb))];exact (fp b hb).1
 done:=by
  intro X hP hw hK hc i af s σ H E I hf st hg;subst hP hw hK;obtain ⟨xs,ys,OC,OB,hx⟩:=hg;obtain ⟨Sl,Ud,p1,Uy⟩:=I.list OC;obtain ⟨cE,Om,p2,Ux⟩:=I.list OB;obtain ⟨hZ,LN,⟨a0,c0,MV⟩,MS,LK⟩:=st;have l1':=Ud.length;have Uv:=Om.length;have sub:∀ b,b∈[z,TO,i1,i2]->b∈[z,TI,TO,i1,i2]:=λb hb=>by
   simp only [zK,zj,or_false] at hb ⊢;rcases hb with e | e | e | e <;> simp [e]
  refine wpAny_pyNext_zip_end (I.ok.hd hc) ap hZ LN MV MS LK p1.isList p2.isList (by
   rcases hx with h | h
   ·exact .inl (by simp;omega)
   ·exact .inr (by simp;omega)) λh' hk=>⟨rfl,?_⟩
  have cP:∀ b o,b ∉ [z,TO,i1,i2]->s.heap.get? b=some o->h'.get? b=some o:=λb o hb q=>by
   simp only [zK,zj,or_false,not_or] at hb;exact hk b o hb.1 hb.2.1 hb.2.2.1 hb.2.2.2 q
  refine Inv.step (s:=s) (h':=h') (g':=s.gens) (d':=s.drawn) (t':=s.toks) (ch:=[z,TO,i1,i2]) I (λb hb=>?_) (λb o _ _ hb q _=>cP b o hb q) (λb o _ _ hb q _=>⟨o.slots,cP b o hb q⟩)
    (λb o _ q n=>n) (λb o hb q=>⟨o,cP b o hb q⟩)
    (λb ys q=>q) (λb o v q=>q) (λb ps q=>⟨#[],by rw [q];simp⟩)
    (λm hm=>by
     obtain ⟨o,jB,ep,q,r⟩:=hm;exact ⟨o,jB,ep,cP _ o (λhb=>(hf _ (sub _ hb)).2.1 rfl) q,r⟩) (λb v' q=>?_) I.bare
  ·obtain ⟨e0,e1,e2,e3,e4,e5⟩:=hf b (sub b hb);exact ⟨e3,e1,e4,e5⟩
  ·refine (I.aY b v' q).fh (λc ob hc qc=>cP c ob (λhb=>?_) qc) (λc qc=>qc) λc ys qc=>qc;have e0:=(hf c (sub c hb)).1;rcases hc with z | z
   ·subst z;exact xT q e0 rfl
   ·exact xT z e0 rfl
 self:=λ_ _ _ _ _ st h=>wpAny_pyIter_zip st.1 h
def Sq (K:PySem.W.Frag)(ta:TA):TI:=fun σ H R=>ta σ H λvs H1=>∃ a b,vs=[.ref a,.ref b]/\(∃ xs,aG K H1 a xs)/\(∃ ys,aG K H1 b ys)/\R (Of K a b) H1
theorem tQ {X:Cx}{a b:Expr}{ta:TA}{p pos fu:Pos}{es:List Expr}{k:Nat}{K:PySem.W.Frag}(hK:X.K=K)(hg:Gl X "zip")(hm:X.mg "zip" = none)(ha:PA X [a,b] ta)
  (hs:starEach [a,b] X.env=(false,eval a X.env)::starEach [b] X.env:=by rfl) (tZ:starEach [b] X.env=[(false,eval b X.env)]:=by rfl) :
  PI X (.Tuple es k fu) (.Call (.Name "zip" p) [a,b] [] pos) (Sq K ta):=by
 subst hK;intro af s σ H R I h;refine Call_ (cj I hg hm boot_zip (zl (aZ (ha pos af s σ H _ I h) λus s1 ⟨vs,H1,I1,r1,q1⟩=>?_) (by rw [hs,tZ]) (by rw [tZ];rfl)));obtain ⟨l1,l2,e,⟨xs,OC⟩,⟨ys,OB⟩,q⟩:=q1;subst e;cases r1 with
 | cons r rr=>
  cases rr with
  | cons r' rr=>
   cases rr;cases r;cases r';obtain ⟨Sl,Ud,p1,Uy⟩:=I1.list OC;obtain ⟨cE,Om,p2,Ux⟩:=I1.list OB;have lt1:l1 < s1.heap.objs.size:=let ⟨_,z,_⟩:=p1.isList;Heap.lt_size z;have lt2:l2 < s1.heap.objs.size:=let ⟨_,z,_⟩:=p2.isList;Heap.lt_size z;refine call_zip_2 p1.isList p2.isList λh' hZ LN MV MS LK hsz hk=>?_;refine wpAny_pyIter_zip hZ ?_;have I2:Inv X af σ H1 { s1 with heap:=h' }:=I1.kept (t':=s1.toks) hk;refine ⟨s1.heap.objs.size + 4,[s1.heap.objs.size + 4,s1.heap.objs.size + 2,s1.heap.objs.size + 3,s1.heap.objs.size,s1.heap.objs.size + 1],_,_,H1,rfl,I2,uH l1 l2 _ _ _ _ _ (zipApart_new lt1 lt2),⟨hZ,LN,⟨_,_,MV⟩,MS,LK⟩,λb hb=>?_,q⟩;have eW:s1.heap.objs.size<=b:=by
    simp only [zK,zj,or_false] at hb;rcases hb with e | e | e | e | e <;> rw [e] <;> first | exact zE _ | exact Nat.le_add_right _ _
   exact I1.nO eW (I1.aY.fresh eW)
theorem LV {K:PySem.W.Frag}{a b:Addr}{xs ys:List V}{g:TG}{tb:TS}{D:Ends}{σ:St}{H:Hp}(el:xs.length=ys.length)(Pv:Nat->St->Hp->Prop)(h0:Pv 0 σ H)(hl:∀ i σ H,i<=xs.length->Pv i σ H->aG K H a xs/\aG K H b ys)
  (hs:∀ i x y q σ H,xs[i]?=some x->ys[i]?=some y->H q=none->Pv i σ H->g (.ref q) σ (upd H q (.tup [x,y])) fun gT H2=>tb (D.lp (Pv (i + 1))) gT H2) (hd:∀ σ H,Pv xs.length σ H->D.nx σ H) :
  ∃ W:Nat->Nat->St->Hp->Prop,(∃ m,W 0 m σ H)/\∀ i m σ H,W i m σ H ->
   ((Of K a b).stop i H/\D.nx σ H)\/((Of K a b).go i H/\∃ N:St->Hp->Prop,(∀ bu H',N bu H'->∃ m',m' < m/\W (i + 1) m' bu H')/\∀ x H',(Of K a b).qx i H x H'->g x σ H' fun gT H2=>tb (D.lp N) gT H2):=by
 refine ⟨λi m σ H=>m=xs.length - i/\i<=xs.length/\Pv i σ H,⟨xs.length,by simp,zc _,h0⟩,?_⟩;rintro i m σ H ⟨rfl,hi,p⟩;obtain ⟨q1,q2⟩:=hl i σ H hi p;by_cases cN:i < xs.length
 ·refine .inr ⟨⟨xs,ys,xs[i],ys[i]'(by omega),q1,q2,by simp [cN],by simp [<-el,cN]⟩,Pv (i + 1),fun bu H' p'=>⟨xs.length - (i + 1),by omega,rfl,cN,p'⟩,λx H' y=>?_⟩;obtain ⟨q',x',y',hq,e1,e2,y⟩:=y;subst e1;subst e2;exact hs i x' y' q' σ _ (y xs ys q1 q2).1 (y xs ys q1 q2).2 hq p
 ·have e:i=xs.length:=by omega
  subst e;exact .inl ⟨⟨xs,ys,q1,q2,.inl (zE _)⟩,hd σ H p⟩
end L2
namespace Sm
open PySem L2 aR
theorem Mk (xs:List V)(k:Nat):nX xs none (some (k:Int))=xs.take k:=by
 unfold nX;rw [HT.Nk];show (xs.drop 0).take (min k xs.length - 0)=xs.take k;rw [List.drop_zero,Nat.sub_zero];by_cases h:k<=xs.length
 ·rw [Nat.min_eq_left h]
 ·rw [Nat.min_eq_right (by omega),List.take_of_length_le (zE _),List.take_of_length_le (by omega)]
end Sm
namespace L2
open PySem
theorem lD {c:Bool}{A:Prop}{D:Ends}{σ:St}{H:Hp}(Pre:St->Hp->Prop)(k:∀ σ H,Pre σ H->D.nx σ H)(h1:c=true->(∀ σ H,Pre σ H->D.nx σ H)->A)(h2:c=false->Pre σ H):if c=true then A else jg D σ H:=by
 cases c with
 | true=>exact h1 rfl k
 | false=>exact k _ _ (h2 rfl)
end L2
namespace Sm
open PySem L2 aR
def Sk (row F:Fn)(x:W3):Fn:=if below (row x.g) x.t=true/\bX (F x.o) x.t=false then put F x.o (some x.t) else F
def jac (ws:List W3)(row:Fn):Fn:=ws.foldl (Sk row) row
def vt (ws:List W3)(row:Fn):Nat->Fn
 | 0=>row
 | k + 1=>jac ws (vt ws row k)
def rk (ws:List W3):Option Int->Nat
 | none=>ws.length + 1
 | some y=>ws.countP λx=>decide (x.t < y)
end Sm
namespace L2
open PySem PySem.Spec PyProof.Rows
section
variable {X:Cx}
theorem fitsLong {k:Int}(h1:-2 ^ 63<=k)(h2:k < 2 ^ 63):Builtin.Range.rangeFitsLong k=true:=by unfold Builtin.Range.rangeFitsLong;rw [decide_eq_true h1,decide_eq_true h2];rfl
theorem nu {a:Expr}{ta:TA}{p p2 pos fu:Pos}(hc:X.calm=true)(hg:Gl X "list")(hm:X.mg "list" = none)(XC:Gl X "range")(Xn:X.mg "range" = none)(ha:PA X [a] ta)
  (hs:starEach [a] X.env=[(false,eval a X.env)]:=by rfl) (SE:starEach [Expr.Call (.Name "range" p2) [a] [] fu] X.env=[(false,eval (Expr.Call (.Name "range" p2) [a] [] fu) X.env)]:=by rfl) :
  PE X (.Call (.Name "list" p) [.Call (.Name "range" p2) [a] [] fu] [] pos) (fun σ H Q=>ta σ H λvs H1=>∃ n:Nat,vs=[.int (n:Int)]/\n<=1000/\∀ l,H1 l=none->Q (.ref l) (upd H1 l (.lst ((List.range n).map λk:Nat=>V.int (k:Int))))):=by
 intro af s σ H Q I h;refine wpAny_Call_Name_kw (cj I hg hm boot_list ?_ (by decide) (by decide));refine zl ?_ SE rfl;rw [SE];show wpAny _ _ (spliced ((false,eval (Expr.Call (.Name "range" p2) [a] [] fu) X.env)::backTo pos (starEach [] X.env))) _ _ s;refine Calls.spliced_cons ?_;refine Call_ (cj I XC Xn boot_range (zl (aZ (ha fu af s σ H _ I h) λus s1 ⟨vs,H1,I1,r1,q1⟩=>?_) hs rfl));obtain ⟨n,rfl,hn,q⟩:=q1;obtain ⟨u,rfl,ru⟩:=Vals.one r1;obtain ⟨t,rfl⟩:=ru;refine call_range_1 ?_;refine Calls.spliced_nil ?_;have sm:Builtin.Range.small 0 (n:Int) 1=true:=by
  have sz:Builtin.Range.rangeSize 0 (n:Int) 1=n:=by rw [rangeSize_one];split <;> omega
  have f0:Builtin.Range.rangeFitsLong 0=true:=fitsLong (by decide) (by decide);have f1:Builtin.Range.rangeFitsLong 1=true:=fitsLong (by decide) (by decide);have fn:Builtin.Range.rangeFitsLong (n:Int)=true:=fitsLong (by omega) (by omega);have fm:Builtin.Range.rangeFitsLong ((n:Int) + (1 - 1))=true:=fitsLong (by omega) (by omega);unfold Builtin.Range.small;rw [sz,f0,f1,fn,if_pos (show (1:Int) > 0 by decide),fm,Bool.or_true];rfl
 have sz:Builtin.Range.rangeSize 0 (n:Int) 1=n:=by rw [rangeSize_one];split <;> omega
 refine call_list_range (n:=n) (I1.ok.hd hc) (Heap.get?_push_size _ rfl) sm sz (by omega) λh' tk Tu c' keep Qn items=>?_;have vals:∀ (m:Nat) (l:List Value),l.length=m->(∀ (j:Nat) v,l[j]?=some v->∃ t,v=Value.int (0 + (j:Int) * 1) t)->Vals ((List.range m).map λk:Nat=>V.int (k:Int)) l:=by
  intro m;induction m with
  | zero=>
   intro l hl _;rw [List.length_eq_zero_iff.mp hl];exact .nil
  | succ m ih=>
   intro l hl hv;have ne:l≠[]:=λe=>by rw [e] at hl;cases hl
   have es:l=l.dropLast++[l.getLast ne]:=(List.dropLast_concat_getLast ne).symm;rw [es,List.range_succ,zG];refine Vals.append (ih _ (by rw [List.length_dropLast,hl];rfl) λj v h=>hv j v ?_) (.cons ?_ .nil)
   ·rw [es];rw [zi (zC.mp h).1];exact h
   ·obtain ⟨t,e⟩:=hv m (l.getLast ne) (by rw [List.getLast_eq_getElem];rw [zF (by omega)];simp [hl]);have e2:(0:Int) + (m:Int) * 1=(m:Int):=by omega
    rw [e2] at e;exact ⟨t,e⟩
 have WB:((List.range n).map λk:Nat=>V.int (k:Int)).length<=sizeLine:=by
  rw [zA,yJ,sizeLine_eq];omega
 have ge:s1.heap.objs.size<=(s1.heap.push { cls:=.type "range", data:=.fields #[.int 0 s1.toks,.int n t,.int 1 (s1.toks + 1)] }).objs.size:=by rw [Heap.size_push];exact yC _
 exact ⟨.ref _,_,I1.laid (t':=tk) (λb o' h=>keep b o' (Heap.get?_push_of_some _ h)) ge (show aW X.prog X.w _ h' _ (.lst ((List.range n).map λk:Nat=>V.int (k:Int))) from ⟨WB,Tu.toList,c',vals n Tu.toList (by rw [Array.length_toList];exact items.1) (λj v h=>items.2 j v (by rw [<-Array.getElem?_toList];exact h)),Qn⟩),rfl,q _ (I1.aY.fresh ge)⟩
end
end L2
namespace Sm
open PySem L2 aR
structure Rows (H0 H:Hp) (ms:List M4) (n k:Nat) (x:Int) (as:List Addr):Prop where
 pos:as≠[]
 iN:as.length<=200000
 at':∀ (i:Nat) (a:Addr),as[i]?=some a->H0 a=none/\H a=some (.lst ((rep n (vt (aV ms) (aE k x) i)).map oV))
 ne:∀ i,i + 1 < as.length->rep n (vt (aV ms) (aE k x) (i + 1))≠rep n (vt (aV ms) (aE k x) i)
 last:rep n (vt (aV ms) (aE k x) as.length)=rep n (vt (aV ms) (aE k x) (as.length - 1))
end Sm
namespace L2
open PySem PySem.Spec PyProof.Rows
section
variable {K:PySem.W.Frag}{a:Addr}{xs:List V}{n:Nat}{caps:List Nat}{g:TG}{tc:TT}{te:TE}{σ:St}{H:Hp}{Qf:Addr->Hp->List V->Prop}
end
end L2
namespace Sm
open PySem L2 aR
end Sm
namespace Sm
open PySem L2
end Sm
namespace Sm
open PySem L2 aR
theorem lO {ms:List M4}{n:Nat}{m:M4}(hm:ms[n]?=some m):∀ i,n < i->(⟨n,⟨m.lo.toNat,m.hi.toNat,m.t⟩⟩:W4)∈cU ms i/\(⟨n,⟨m.hi.toNat,m.lo.toNat,m.t⟩⟩:W4)∈cU ms i
 | 0,h=>absurd h (zd _)
 | i + 1,h=>by
  unfold cU;rcases Nat.lt_or_ge n i with l | l
  ·have:=lO hm i l;exact ⟨zX _ this.1,zX _ this.2⟩
  ·have e:n=i:=by omega
   subst e;rw [hm];exact ⟨zJ _ (.head _),zJ _ (.tail _ (.head _))⟩
def again (ms:List M4)(day first:Int):Nat->List M4
 | 0=>[]
 | r + 1=>again ms day first r++ms.map (M4.iA ((first + r) * day))
end Sm
namespace L2
open PySem PySem.Spec PyProof.Rows
def TY (lo c:Int)(n:Nat):It:=⟨λi _=>i < n,λi H x H'=>H'=H/\x=.int (lo + i * c),λi _=>n<=i⟩
theorem oQ {P:Program}{w:World}{K:PySem.W.Frag}{tg:Expr}(it:Addr)(lo c:Int)(n:Nat):Turn P w K tg (TY lo c n) [it] it (λi h=>IsRangeIter h it (lo + (i:Nat) * c) ((n:Int) - (i:Nat)) c) where
 mem:=by simp
 obj:=λi h st b hb=>by
  have e:b=it:=by simpa using hb
  subst e;exact ⟨_,st,λv z=>by
   have z':Data.fields _=Data.cell v:=z;cases z'⟩
 keep:=λi h h' st k=>k it (by simp) _ st
 item:=by
  intro X hP hw hK hc i af s σ H E I hf st hg;subst hP hw hK;obtain ⟨f0,f1,f2,f3,f4,f5⟩:=hf it (by simp);have W:=Walks.range (prog:=X.prog) (w:=X.w) (I.ok.hd hc) it lo c n;refine W.item i s _ _ hg st λv h' tk hv rz kk=>?_;obtain ⟨t,rfl⟩:=hv;have I1:Inv X af σ H { s with heap:=h',toks:=tk }:=I.turned (λb o hb e=>kk b o (by simpa using hb) e) f0 f1 f3 f4 f5;exact ⟨_,rfl,t8 (s:={ s with heap:=h',toks:=tk }) (n := "range_iterator") rz rfl rfl (by decide) ⟨.int (lo + i * c),H,I1,⟨t,rfl⟩,⟨rfl,rfl⟩,rz,λb hb=>(hf b hb).1⟩⟩
 done:=by
  intro X hP hw hK hc i af s σ H E I hf st hg;subst hP hw hK;obtain ⟨f0,f1,f2,f3,f4,f5⟩:=hf it (by simp);exact wpAny_pyNext_range_end (I.ok.hd hc) st (by have:n<=i:=hg;omega) λh' eb=>⟨rfl,I.turned (t':=s.toks) (λb o hb e=>eb b o hb e) f0 f1 f3 f4 f5⟩
 self:=λ_ _ _ _ _ st h=>wpAny_pyIter_rangeiter st h
section
variable {X:Cx}{tg:Expr}
theorem sJ {lo c:Int}{n:Nat}{g:TG}{tb:TS}{D:Ends}{σ:St}{H:Hp}(Pv:Nat->St->Hp->Prop)(h0:Pv 0 σ H)
  (hs:∀ i σ H,i < n->Pv i σ H->g (.int (lo + i * c)) σ H fun gT H2=>tb (D.lp (Pv (i + 1))) gT H2) (hd:∀ σ H,Pv n σ H->D.nx σ H) :
  ∃ W:Nat->Nat->St->Hp->Prop,(∃ m,W 0 m σ H)/\∀ i m σ H,W i m σ H ->
   ((TY lo c n).stop i H/\D.nx σ H)\/((TY lo c n).go i H/\∃ N:St->Hp->Prop,(∀ bu H',N bu H'->∃ m',m' < m/\W (i + 1) m' bu H')/\∀ x H',(TY lo c n).qx i H x H'->g x σ H' fun gT H2=>tb (D.lp N) gT H2):=by
 refine ⟨λi m σ H=>m=n - i/\i<=n/\Pv i σ H,⟨n,by simp,zc _,h0⟩,?_⟩;rintro i m σ H ⟨rfl,hi,p⟩;by_cases cN:i < n
 ·refine .inr ⟨cN,Pv (i + 1),fun bu H' p'=>⟨n - (i + 1),by omega,rfl,cN,p'⟩,λx H' y=>?_⟩;obtain ⟨e,y⟩:=y;subst e;subst y;exact hs i σ _ cN p
 ·have e:i=n:=by omega
  subst e;exact .inl ⟨zE _,hd σ H p⟩
end
section
variable {X:Cx}
theorem Mp {K:PySem.W.Frag}(hK:X.K=K)(hc:X.calm=true):dc X (.builtin "any") (λxs H Q=>∃ p,∃ bs:List Bool,xs=[.ref p]/\aG K H p (bs.map V.bl)/\Q (.bl (bs.any id)) H):=by subst hK;intro af s σ H xs us Q I r h;obtain ⟨p,bs,rfl,hq,q⟩:=h;obtain ⟨u,rfl,rx⟩:=vals1 r;cases rx;obtain ⟨ay,r',pl,hz⟩:=I.list hq;obtain ⟨m,F⟩:=I.fr;exact LSm.any_bools F (j6 (g:=X.base) (h:=s.heap)) (I.ok.hd hc) pl.isList (kI r') λh' tk F' N'=>⟨.bl _,H,I.keptAll F F' N',rfl,q⟩
end
end L2
namespace HT
open PySem PySem.Spec PyProof.Rows
section
variable {prog:Program}{w:World}{A:Around}{E:Value->Shared->Prop}{s:Shared}
end
end HT
namespace L2
open PySem PySem.Spec PyProof.Rows
section
variable {X:Cx}
end
def Oi (K:PySem.W.Frag)(H:Hp):Nat->V->V->Prop
 | 0,x,y=>x=y/\(bO x=true\/∃ a,x=.ref a)
 | n + 1,x,y=>(x=y/\(bO x=true\/∃ a,x=.ref a))\/∃ (a b:Addr) (xs ys:List V),x=.ref a/\y=.ref b/\((aG K H a xs/\aG K H b ys)\/(bq K H a xs/\bq K H b ys))/\xs.length=ys.length/\∀ (i:Nat) (x y:V),xs[i]?=some x->ys[i]?=some y->Oi K H n x y
theorem L3 {x:V}(h:bO x=true):qM x x=true:=by cases x <;> first | rfl | (simp [qM,bO] at *)
section
variable {X:Cx}{af:List (Addr×Obj)}{σ:St}{H:Hp}{s:Shared}
theorem wU {xs:List V}{us:List Value}(r:Vals xs us){j:Nat}(h:j < us.toArray.size):∃ x,xs[j]?=some x/\RelV x us.toArray[j]:=by
 have hl:=r.length;simp only [zO] at h;have a1:j < xs.length:=by omega
 obtain ⟨u,eu,ru⟩:=r.get (i:=j) (x:=xs[j]) (by simp [a1]);have e1:us.toArray[j]=u:=by rw [List.getElem_toArray];exact Option.some.inj ((zF h).symm.trans eu)
 exact ⟨xs[j],by simp [a1],by rw [e1];exact ru⟩
theorem jE (I:Inv X af σ H s):∀ (n:Nat) {A:Around}{x y:V}{u v:Value},A.units + n < cLine->Oi X.K H n x y->RelV x u->RelV y v->SeqAt.EqAt A s u v true
 | n,A,x,y,u,v,hu,h,ru,rv=>by
  have base:x=y/\(bO x=true\/∃ a,x=.ref a)->SeqAt.EqAt A s u v true:=by
   rintro ⟨rfl,h | ⟨a,rfl⟩⟩
   ·have:=sO (A:=A) (s:=s) ru rv h h;rw [L3 h] at this;exact this
   ·cases ru;cases rv;exact SeqAt.EqAt.same _
  cases n with
  | zero=>exact base h
  | succ n=>
   rcases h with h | ⟨a,b,xs,ys,rfl,rfl,h,hl,hi⟩
   ·exact base h
   ·cases ru;cases rv;by_cases e:a=b
    ·rw [e];exact SeqAt.EqAt.same _
    rcases h with ⟨h1,h2⟩ | ⟨h1,h2⟩
    ·obtain ⟨ay,r1,p1,_⟩:=I.list h1;obtain ⟨cE,r2,p2,_⟩:=I.list h2;have l1:=r1.length;have l2:=r2.length;have al:(List.range ay.toArray.size).all (λ_=>true)=true:=by simp
     have:=SeqAt.RcAt.lists (A:=A) (e:=λ_=>true) p1.isList p2.isList (by simp;omega) (by omega) λj h1 h2=>by
      obtain ⟨x,ex,rx⟩:=wU r1 h1;obtain ⟨y,ey,ry⟩:=wU r2 h2;exact jE I n (by show A.units + 1 + n < cLine;omega) (hi j x y ex ey) rx ry
     rw [al] at this;exact SeqAt.EqAt.of_refs e this
    ·obtain ⟨ay,r1,p1,_⟩:=I.tuple h1;obtain ⟨cE,r2,p2,_⟩:=I.tuple h2;have l1:=r1.length;have l2:=r2.length;have al:((List.range (min ay.toArray.size cE.toArray.size)).all (λ_=>true) && ay.toArray.size == cE.toArray.size)=true:=by simp;omega
     have:=SeqAt.RcAt.tuples (A:=A) (e:=λ_=>true) p1 p2 (by omega) λj h1 h2=>by
      obtain ⟨x,ex,rx⟩:=wU r1 h1;obtain ⟨y,ey,ry⟩:=wU r2 h2;exact jE I n (by show A.units + 1 + n < cLine;omega) (hi j x y ex ey) rx ry
     rw [al] at this;exact SeqAt.EqAt.of_refs e this
def TU (K:PySem.W.Frag)(H:Hp)(x y:V):Prop:=∃ n,n<=20/\∃ (a b:Addr) (xs ys:List V),x=.ref a/\y=.ref b/\((aG K H a xs/\aG K H b ys)\/(bq K H a xs/\bq K H b ys))/\xs.length=ys.length/\∀ (i:Nat) (x y:V),xs[i]?=some x->ys[i]?=some y->Oi K H n x y
theorem PM (hu:X.A.units + 64 < cLine):fL X (compareOp .NotEq) (λx y H Q=>TU X.K H x y/\Q (.bl false) H):=by
 intro af s σ H x y v u Q I rx ry h;obtain ⟨⟨n,hn,a,b,xs,ys,rfl,rfl,h,hl,hi⟩,q⟩:=h;cases rx;cases ry;rcases h with ⟨h1,h2⟩ | ⟨h1,h2⟩
 ·obtain ⟨ay,r1,p1,_⟩:=I.list h1;obtain ⟨cE,r2,p2,_⟩:=I.list h2;have l1:=r1.length;have l2:=r2.length;have al:(List.range ay.toArray.size).all (λ_=>true)=true:=by simp
  exact SeqAt.RcNeAt.lists (e:=λ_=>true) p1.isList p2.isList (by simp;omega) (by omega) (λj h1 h2=>by
   obtain ⟨x,ex,rx⟩:=wU r1 h1;obtain ⟨y,ey,ry⟩:=wU r2 h2;exact jE I n (by show X.A.units + 1 + n < cLine;omega) (hi j x y ex ey) rx ry) _ _ _ _ ⟨.bl _,H,I,by rw [al];rfl,q⟩
 ·obtain ⟨ay,r1,p1,_⟩:=I.tuple h1;obtain ⟨cE,r2,p2,_⟩:=I.tuple h2;have l1:=r1.length;have l2:=r2.length;have al:((List.range (min ay.toArray.size cE.toArray.size)).all (λ_=>true) && ay.toArray.size == cE.toArray.size)=true:=by simp;omega
  exact SeqAt.RcNeAt.tuples (e:=λ_=>true) p1 p2 (by omega) (λj h1 h2=>by
   obtain ⟨x,ex,rx⟩:=wU r1 h1;obtain ⟨y,ey,ry⟩:=wU r2 h2;exact jE I n (by show X.A.units + 1 + n < cLine;omega) (hi j x y ex ey) rx ry) _ _ _ _ ⟨.bl _,H,I,by rw [al];rfl,q⟩
end
def Eqv (K:PySem.W.Frag)(H:Hp):Nat->V->V->Bool->Prop
 | 0,x,y,b=>(x=y/\(∃ a,x=.ref a)/\b=true)\/(bO x=true/\bO y=true/\b=qM x y)
 | n + 1,x,y,b=>(x=y/\(∃ a,x=.ref a)/\b=true)\/(bO x=true/\bO y=true/\b=qM x y)\/∃ (a c:Addr) (xs ys:List V) (e:Nat->Bool),x=.ref a/\y=.ref c/\((aG K H a xs/\aG K H c ys)\/(bq K H a xs/\bq K H c ys))/\(a=c->b=true)/\b=(decide (xs.length=ys.length) && (List.range xs.length).all e)/\∀ (i:Nat) (x y:V),xs[i]?=some x->ys[i]?=some y->Eqv K H n x y (e i)
section
variable {X:Cx}{af:List (Addr×Obj)}{σ:St}{H:Hp}{s:Shared}
theorem ko {A:Around}{x y:V}{b:Bool}{u v:Value}(h:(x=y/\(∃ a,x=.ref a)/\b=true)\/(bO x=true/\bO y=true/\b=qM x y))(ru:RelV x u)(rv:RelV y v):SeqAt.EqAt A s u v b:=by
 rcases h with ⟨rfl,⟨a,rfl⟩,rfl⟩ | ⟨h1,h2,rfl⟩
 ·cases ru;cases rv;exact SeqAt.EqAt.same _
 ·exact sO (A:=A) (s:=s) ru rv h1 h2
theorem LZ (I:Inv X af σ H s):∀ (n:Nat) {A:Around}{x y:V}{b:Bool}{u v:Value},A.units + n < cLine->Eqv X.K H n x y b->RelV x u->RelV y v->SeqAt.EqAt A s u v b:=by
 intro n;induction n with
 | zero=>intro A x y b u v hu h ru rv;exact ko h ru rv
 | succ n ih=>
  intro A x y b u v hu h ru rv;rcases h with h | h | ⟨a,c,xs,ys,e,rfl,rfl,h,hs,hb,hi⟩
  ·exact ko (.inl h) ru rv
  ·exact ko (.inr h) ru rv
  ·cases ru;cases rv;by_cases ne:a=c
   ·rw [hs ne,ne];exact SeqAt.EqAt.same _
   refine SeqAt.EqAt.of_refs ne ?_;have Sz:(A.units + 1) + n < cLine:=by omega
   rcases h with ⟨h1,h2⟩ | ⟨h1,h2⟩
   ·obtain ⟨ay,r1,p1,_⟩:=I.list h1;obtain ⟨cE,r2,p2,_⟩:=I.list h2;have l1:=r1.length;have l2:=r2.length;by_cases hl:xs.length=ys.length
    ·have:=SeqAt.RcAt.lists (A:=A) (e:=e) p1.isList p2.isList (by simp;omega) (by omega) λj h1 h2=>by
      obtain ⟨x,ex,rx⟩:=wU r1 h1;obtain ⟨y,ey,ry⟩:=wU r2 h2;exact ih Sz (hi j x y ex ey) rx ry
     rw [hb,decide_eq_true hl,xG,l1];simpa using this
    ·rw [hb,decide_eq_false hl,yQ];exact SeqAt.RcAt.lists_lengths (A:=A) p1.isList p2.isList (by simp;omega) (by omega)
   ·obtain ⟨ay,r1,p1,_⟩:=I.tuple h1;obtain ⟨cE,r2,p2,_⟩:=I.tuple h2;have l1:=r1.length;have l2:=r2.length;have:=SeqAt.RcAt.tuples (A:=A) (e:=e) p1 p2 (by omega) λj h1 h2=>by
     obtain ⟨x,ex,rx⟩:=wU r1 h1;obtain ⟨y,ey,ry⟩:=wU r2 h2;exact ih Sz (hi j x y ex ey) rx ry
    by_cases hl:xs.length=ys.length
    ·rw [hb,decide_eq_true hl,xG,l1];have e1:cE.length=ay.length:=by omega
     simpa [e1] using this
    ·rw [hb,decide_eq_false hl,yQ];have e1:¬ ay.length=cE.length:=by omega
     have e2:(ay.toArray.size == cE.toArray.size)=false:=by simp [e1]
     rw [e2,ym] at this;exact this
def Ws (K:PySem.W.Frag)(neg:Bool):R2:=λx y H Q=>∃ (n:Nat) (a c:Addr) (xs ys:List V) (e:Nat->Bool) (b:Bool),n<=20/\x=.ref a/\y=.ref c/\((aG K H a xs/\aG K H c ys)\/(bq K H a xs/\bq K H c ys))/\b=(decide (xs.length=ys.length) && (List.range xs.length).all e)/\(∀ (i:Nat) (x y:V),xs[i]?=some x->ys[i]?=some y->Eqv K H n x y (e i))/\Q (.bl (if neg then !b else b)) H
theorem PL (hu:X.A.units + 64 < cLine):fL X (compareOp .NotEq) (Ws X.K true):=by
 intro af s σ H x y v u Q I rx ry h;obtain ⟨n,a,c,xs,ys,e,b,hn,rfl,rfl,h,hb,hi,q⟩:=h;cases rx;cases ry;rw [if_pos rfl,hb] at q;rcases h with ⟨h1,h2⟩ | ⟨h1,h2⟩
 ·obtain ⟨ay,r1,p1,_⟩:=I.list h1;obtain ⟨cE,r2,p2,_⟩:=I.list h2;have l1:=r1.length;have l2:=r2.length;by_cases hl:xs.length=ys.length
  ·rw [decide_eq_true hl,xG,l1] at q;exact SeqAt.RcNeAt.lists (e:=e) p1.isList p2.isList (by simp;omega) (by omega) (λj h1 h2=>by
    obtain ⟨x,ex,rx⟩:=wU r1 h1;obtain ⟨y,ey,ry⟩:=wU r2 h2;exact LZ I n (by show X.A.units + 1 + n < cLine;omega) (hi j x y ex ey) rx ry) _ _ _ _ ⟨.bl _,H,I,rfl,by simpa using q⟩
  ·rw [decide_eq_false hl,yQ] at q;exact SeqAt.RcNeAt.lists_lengths p1.isList p2.isList (by simp;omega) (by omega) _ _ _ _ ⟨.bl _,H,I,rfl,q⟩
 ·obtain ⟨ay,r1,p1,_⟩:=I.tuple h1;obtain ⟨cE,r2,p2,_⟩:=I.tuple h2;have l1:=r1.length;have l2:=r2.length;have key:((List.range (min ay.toArray.size cE.toArray.size)).all e && ay.toArray.size == cE.toArray.size)=(decide (xs.length=ys.length) && (List.range xs.length).all e):=by
   by_cases hl:xs.length=ys.length
   ·have e1:cE.length=ay.length:=by omega
    rw [decide_eq_true hl,xG,l1];simp [e1]
   ·have e1:¬ ay.length=cE.length:=by omega
    rw [decide_eq_false hl,yQ];simp [e1]
  rw [<-key] at q;exact SeqAt.RcNeAt.tuples (e:=e) p1 p2 (by omega) (λj h1 h2=>by
   obtain ⟨x,ex,rx⟩:=wU r1 h1;obtain ⟨y,ey,ry⟩:=wU r2 h2;exact LZ I n (by show X.A.units + 1 + n < cLine;omega) (hi j x y ex ey) rx ry) _ _ _ _ ⟨.bl _,H,I,rfl,q⟩
end
section
variable {X:Cx}
theorem mD:∀ {ns:List Int}{ay:List Value},Vals (ns.map V.int) ay->∃ xs:List (Int×Tok),ay=xs.map (λp=>Value.int p.1 p.2)/\xs.map (·.1)=ns
 | [],_,r=>by cases r;exact ⟨[],rfl,rfl⟩
 | n::ns,_,r=>by
  cases r with
  | cons r1 rr=>
   obtain ⟨t,rfl⟩:=r1;obtain ⟨xs,rfl,e⟩:=mD rr;exact ⟨(n,t)::xs,rfl,by rw [zf,e]⟩
end
end L2
namespace Sm
open PySem L2 aR
def mx:Option Int->Option Int->Option Int
 | none,b=>b
 | some a,none=>some a
 | some a,some b=>some (if b > a then b else a)
theorem ahead {n:Nat}{ms:List M4}{m:M4}(g:Good n (ms++[m])){v:Nat}{x y:Int}{i:Nat}(hi:i≠v)(h:fwd ms (aE v x) i=some y):y<=m.t/\((i=m.lo.toNat\/i=m.hi.toNat)->y < m.t):=by
 obtain ⟨a,ha,ao,at',_⟩:=ie (ws:=aV ms) h (by simp [aE,hi]);unfold aV at ha;obtain ⟨c,hc,hx⟩:=List.mem_flatMap.mp ha;have od:=(List.pairwise_append.mp g.order).2.2 c hc m (by simp);obtain ⟨c1,c2,c3,_⟩:=g.each c (by simp [hc]);obtain ⟨m1,m2,m3,_⟩:=g.each m (by simp);unfold two at hx;simp only [zK,zj,or_false] at hx;have ct:c.t=y:=by rcases hx with rfl | rfl <;> exact at'
 have ci:i=c.lo.toNat\/i=c.hi.toNat:=by
  rcases hx with rfl | rfl
  ·exact .inr ao.symm
  ·exact .inl ao.symm
 refine ⟨by rcases od with h | h <;> omega,λhm=>?_⟩;rcases od with h | ⟨h1,h2,h3,h4,h5,h6⟩
 ·omega
 ·exfalso;rcases ci with e | e <;> rcases hm with e' | e' <;> omega
end Sm
namespace L2
open PySem PySem.Spec PyProof.Rows
section
variable {n:Nat}{caps:List Nat}{σ:St}{H:Hp}{g:TG}{tc:TT}{te:TE}{Qf:Addr->Hp->List V->Prop}{K:PySem.W.Frag}{a b:Addr}{xs ys:List V}
theorem vM (el:xs.length=ys.length)(Pv:Nat->St->List V->Hp->Prop)(h0:Pv 0 (gZ n caps σ) [] H)(hn:xs.length<=1000)(hl:∀ i τ acc H,Pv i τ acc H->acc.length<=i/\aG K H a xs/\aG K H b ys)
  (hs:∀ i x y q τ acc H (C:St->List V->Hp->Prop),xs[i]?=some x->ys[i]?=some y->H q=none->Pv i τ acc H->(∀ τ acc H,Pv (i + 1) τ acc H->C τ acc H)->g (.ref q) τ (upd H q (.tup [x,y])) fun cy H2=>tc cy H2 λb H3=>if b=true then te cy H3 λy H4=>C cy (acc++[y]) H4 else C cy acc H3)
  (hd:∀ τ acc H,Pv xs.length τ acc H->∀ p,H p=none->Qf p H acc) :
  ∃ W:Nat->Nat->St->List V->Hp->Prop,(∃ m,W 0 m (gZ n caps σ) [] H)/\∀ i m τ acc H,W i m τ acc H ->
   ((Of K a b).stop i H/\acc.length<=sizeLine/\∀ p,H p=none->Qf p H acc) \/
   ((Of K a b).go i H/\acc.length < sizeLine/\∀ x H',(Of K a b).qx i H x H'->g x τ H' fun cy H2=>tc cy H2 λb H3=>if b=true then te cy H3 λy H4=>∃ m',m' < m/\W (i + 1) m' cy (acc++[y]) H4 else ∃ m',m' < m/\W (i + 1) m' cy acc H3):=
 jF (J:=Of K a b) Pv xs.length h0 hn (λi τ acc H p=>(hl i τ acc H p).1) (λi τ acc H hi p=>⟨xs,ys,xs[i],ys[i]'(by omega),(hl i τ acc H p).2.1,(hl i τ acc H p).2.2,by simp [hi],by simp [<-el,hi]⟩) (fun τ acc H p=>⟨xs,ys,(hl _ τ acc H p).2.1,(hl _ τ acc H p).2.2,.inl (zE _)⟩)
  (λi τ acc H C hi p c x H' y=>by obtain ⟨q,x',y',hq,e1,e2,y⟩:=y;subst e1;subst e2;exact hs i x' y' q τ acc _ C (y xs ys (hl i τ acc _ p).2.1 (hl i τ acc _ p).2.2).1 (y xs ys (hl i τ acc _ p).2.1 (hl i τ acc _ p).2.2).2 hq p c) hd
end
section
variable {X:Cx}
theorem vP (hc:X.calm=true):dc X (.builtin "min") (λxs H Q=>∃ p ns,xs=[.ref p]/\aG X.K H p (List.map V.int ns)/\0 < ns.length/\∀ M,M∈ns->(∀ a∈ns,M<=a)->Q (.int M) H):=by
 intro af s σ H xs us Q I r h;obtain ⟨p,ns,rfl,hp,n0,q⟩:=h;obtain ⟨u,rfl,ru⟩:=vals1 r;cases ru;obtain ⟨ay,r,pl,_⟩:=I.list hp;obtain ⟨ys,rfl,e⟩:=mD r;have hl:ys.length=ns.length:=by rw [<-e,zA]
 have li:s.heap.IsList p (intItems ys.toArray):=by
  have:=pl.isList;unfold intItems;rw [List.map_toArray];exact this
 refine min_intList (I.ok.hd hc) li (by simp;omega) λv h' tk hv k=>?_;obtain ⟨t,rfl⟩:=intItems_at hv;obtain ⟨b1,b2⟩:=argBest_lt (numAt ys.toArray) (ys.toArray.size - 1);have Sa:∀ j (h:j < ns.length),numAt ys.toArray j=ns[j]:=λj h=>by
  rw [numAt_eq];simp [e,h]
 have sz:ys.toArray.size=ns.length:=by simp [hl]
 rw [sz] at b1 b2 ⊢;refine ⟨.int _,H,I.kept k,⟨_,rfl⟩,q _ ?_ λa ha=>?_⟩
 ·rw [Sa _ (by omega)];exact z6 _
 ·obtain ⟨j,hj,rfl⟩:=List.mem_iff_getElem.mp ha;have:=b2 j (by omega);rw [Sa j hj] at this;exact this
end
end L2
namespace Sm
open PySem L2 aR
theorem WO {c:Bool}{A B:Prop}{D:Ends}{σ:St}{H:Hp}(Pre:St->Hp->Prop)(k:∀ σ H,Pre σ H->D.nx σ H)(h1:c=true->(∀ σ H,Pre σ H->D.nx σ H)->A)(h2:c=false->(∀ σ H,Pre σ H->D.nx σ H)->B):if c=true then (if true=true then A else jg D σ H) else B:=by
 cases c with
 | true=>exact h1 rfl k
 | false=>exact h2 rfl k
theorem WR {c:Bool}{T2 A:Prop}{D:Ends}{σ:St}{H:Hp}(Pre:St->Hp->Prop)(k:∀ σ H,Pre σ H->D.nx σ H)(h1:c=true->(∀ σ H,Pre σ H->D.nx σ H)->T2)(h2:c=false->Pre σ H):if c=true then T2 else (if false=true then A else jg D σ H):=by
 cases c with
 | true=>exact h1 rfl k
 | false=>exact k _ _ (h2 rfl)
end Sm
namespace L2
open PySem PySem.Spec PyProof.Rows PySem.W
def kE (c:Addr)(qual:Str):HO:=.ext λh=>h.CodeRec (.ref c) qual
def MT (P:Addr)(pos:Pos)(qual:Str)(H:Hp):Prop:=H P=some (.ju #[])\/∃ c,H P=some (.ju #[rawInt pos.line,rawInt pos.col,.ref c])/\H c=some (kE c qual)
def aS (mg:Str->Option Value)(base:Heap):Prop:=∃ bm o,mg "__builtins__" = some (.ref bm)/\bm≠builtinsNs/\bm≠mainGlobals/\base.get? bm=some o/\o.cls=.type "module" /\ o.dict=some builtinsNs/\o.data=.plain
section
variable {X:Cx}{af:List (Addr×Obj)}{σ:St}{H:Hp}{s:Shared}
theorem Inv.X5 (I:Inv X af σ H s):∀ b∈X.fs,b < s.heap.objs.size:=λb hb=>by
 obtain ⟨_,o,ho,_⟩:=I.ok.i0.mem hb;exact zS (Heap.lt_size ho) I.sz
theorem Mm {P:Program}{w:World}{H:Hp}{h:Heap}{c:Addr}{qual:Str}(r:h.CodeRec (.ref c) qual):aW P w H h c (kE c qual):=by obtain ⟨c2,oc,vs,t,e,ho,hd,hv⟩:=id r;cases e;exact ⟨r,⟨_,ho⟩,λh1 h2 ⟨c2,oc,vs,t,e,ho,hd,hv⟩ k=>by cases e;exact ⟨c,oc,vs,t,rfl,k _ ho,hd,hv⟩⟩
theorem Lw {P c:Addr}{kF:List (Str×Addr)}{pos:Pos}{params:Arguments}{body:Expr}{scope:Scope}{Q:Value->Shared->Prop}(I:Inv X af σ H s)(mt:MT P pos (X.env.qual ++ "<lambda>") H)(t6:X.env.code=.ref c)(hd:codeHdIn X.K c P=true)(bm:aS X.mg X.base)
  (Qx:defaultsOf params X.env=([],[])) (UH:closureFor scope X.env=pure kF)
  (h:∀ f c' nY pm H' s',Inv X ((f,kla_obj "<lambda>" (X.env.qual ++ "<lambda>") params body scope kF pm c' nY)::af) σ H' s'->H' c'=some (kE c' (X.env.qual ++ "<lambda>"))->Sm.cL P H H'->MT P pos (X.env.qual ++ "<lambda>") H'->Q (.ref f) s') :
  wpAny (model X.prog X.w) X.A (eval (.Lambda params body scope pos) X.env) Q X.xe s:=by
 refine kla_eval Qx ?_;have glob:s.heap.Ns mainGlobals X.mg:=I.mod.glob.keeps I.bk;have C:CodeHd s.heap c P:=codeHd_of_K I.oE hd;have tr:∃ o,H P=some o:=by rcases mt with e | ⟨_,e,_⟩ <;> exact ⟨_,e⟩
 have oF:∀ b o,X.base.get? b=some o->b≠P:=λb o e z=>by
  have:=(I.bs b o e).2;obtain ⟨u,hu⟩:=tr;rw [z,hu] at this;cases this
 have hgP:mainGlobals≠P:=by
  obtain ⟨o,_,_,e,_⟩:=I.mod.glob;exact oF _ _ e
 have hB:s.heap.BuiltinsAt X.mg P:=by
  obtain ⟨b,o,e1,e2,e3,e4,e5,e6,e7⟩:=bm;exact ⟨b,o,e1,e2,e3,oF _ _ e4,I.bk _ _ e4,e5,e6,e7⟩
 have pin:∀ {h':Heap}{H':Hp}{ob:Obj}{tk:Nat},Inv X af σ H' { s with heap:=h'.push ob,toks:=tk }->s.heap.objs.size<=h'.objs.size->H' h'.objs.size=none->(∀ v,ob.data≠.cell v)->ob.isFreed=false->Inv X ((h'.objs.size,ob)::af) σ H' { s with heap:=h'.push ob,toks:=tk }:=λ{h' H' ob tk} J hs hn nc nf=>
  J.cB λp hp=>by
   rcases zK.mp hp with rfl | hp
   ·exact ⟨Heap.get?_push_size _ nf,hn,yZ (zS I.lt hs),λz=>yK _ (zS (I.X5 _ z) hs),nc⟩
   ·exact J.pin p (zJ _ hp)
 rcases mt with mt | ⟨c1,mt,OH⟩
 ·have hP:s.heap.get? P=some (tabObj #[]):=I.aY P _ mt;refine kla_makeFunction UH I.ok.glob glob t6 C hP trivial rfl hgP hB λc' nY h' tk hx Zt cN rec ZH=>?_;have fr:H c'=none:=I.aY.fresh Zt;have ncP:c'≠P:=λz=>by rw [z,mt] at fr;cases fr
  have Wm:(h'.push (kla_obj "<lambda>" (X.env.qual ++ "<lambda>") params body scope kF ((X.mg "__name__").getD .none) c' nY)).CodeRec (.ref c') (X.env.qual ++ "<lambda>"):=by
   obtain ⟨c2,oc,vs,t,e,ho,hd,hv⟩:=rec;exact ⟨c2,oc,vs,t,e,Heap.get?_push_of_some _ ho,hd,hv⟩
  have kp:∀ b o,b≠P->s.heap.get? b=some o->(h'.push (kla_obj "<lambda>" (X.env.qual ++ "<lambda>") params body scope kF ((X.mg "__name__").getD .none) c' nY)).get? b=some o:=λb o hb e=>Heap.get?_push_of_some _ (hx b o hb e);have ZG:=Heap.get?_push_of_some (kla_obj "<lambda>" (X.env.qual ++ "<lambda>") params body scope kF ((X.mg "__name__").getD .none) c' nY) ZH;have at_:∀ b,b≠P->b≠c'->upd (upd H P (.ju #[rawInt pos.line,rawInt pos.col,.ref c'])) c' (kE c' (X.env.qual ++ "<lambda>")) b=H b:=λb h1 h2=>by rw [xX h2,xX h1]
  have neT:∀ b u,H b=some u->u≠.ju #[]->b≠P:=λb u e n z=>by rw [z,mt] at e;cases e;exact n rfl
  have Ln:∀ b u,H b=some u->b≠c':=λb u e z=>by rw [z,fr] at e;cases e
  have lt:∀ b o,s.heap.get? b=some o->b≠c':=λb o e=>zW (zS (Heap.lt_size e) Zt);have aP:upd (upd H P (.ju #[rawInt pos.line,rawInt pos.col,.ref c'])) c' (kE c' (X.env.qual ++ "<lambda>")) P=some (.ju #[rawInt pos.line,rawInt pos.col,.ref c']):=by rw [xX ncP.symm,xS]
  have J:Inv X af σ (upd (upd H P (.ju #[rawInt pos.line,rawInt pos.col,.ref c'])) c' (kE c' (X.env.qual ++ "<lambda>"))) { s with heap:=h'.push (kla_obj "<lambda>" (X.env.qual ++ "<lambda>") params body scope kF ((X.mg "__name__").getD .none) c' nY),toks:=tk }:=by
   refine I.un ⟨λb o e n _ _=>kp b o (λz=>by rw [z,mt] at n;cases n) e,λb o e n _ _=>⟨o.slots,kp b o (λz=>by rw [z,mt] at n;cases n) e⟩,λb o e n _=>?_,λb o e _=>?_,λb xs e=>?_,λb o u e=>?_,λb ps e=>?_⟩ λb u e=>?_
   ·rw [at_ b (λz=>by rw [z,mt] at n;cases n) (lt b o e)];exact n
   ·by_cases z:b=P
    ·exact ⟨_,by rw [z];exact ZG⟩
    ·exact ⟨o,kp b o z e⟩
   ·rw [at_ b (neT b _ e (by intro z;cases z)) (Ln b _ e)];exact e
   ·rw [at_ b (neT b _ e (by intro z;cases z)) (Ln b _ e)];exact e
   ·by_cases z:b=P
    ·rw [z,mt] at e;cases e;exact ⟨_,by rw [z,aP,Array.empty_append]⟩
    ·exact ⟨#[],by rw [at_ b z (Ln b _ e),e,Array.append_empty]⟩
   ·by_cases z:b=c'
    ·subst z;rw [xS] at e;cases e;exact Mm Wm
    ·by_cases z2:b=P
     ·rw [z2,aP] at e;cases e;rw [z2];exact ZG
     ·rw [at_ b z2 z] at e;refine (I.aY b u e).fh (λb' v hb q=>kp b' v (λy=>?_) q) (λb' q=>by rw [at_ b' (neT b' _ q (by intro z;cases z)) (Ln b' _ q)];exact q) λb' xs q=>by rw [at_ b' (neT b' _ q (by intro z;cases z)) (Ln b' _ q)];exact q
      rcases hb with hb | hb
      ·exact z2 (hb.symm.trans y)
      ·rw [y,mt] at hb;cases hb
  have nf:upd (upd H P (.ju #[rawInt pos.line,rawInt pos.col,.ref c'])) c' (kE c' (X.env.qual ++ "<lambda>")) h'.objs.size=none:=by
   rw [at_ h'.objs.size (yZ (Heap.lt_size ZH)) (yZ cN)];exact I.aY.fresh (by omega)
  refine h _ c' nY ((X.mg "__name__").getD .none) _ _ (pin J (by omega) nf (by intro v z;cases z) rfl) xS (λb u hb e=>?_) (.inr ⟨c',aP,xS⟩);rw [at_ b hb (Ln b _ e)];exact e
 ·have hP:s.heap.get? P=some (tabObj #[rawInt pos.line,rawInt pos.col,.ref c1]):=I.aY P _ mt;refine kla_makeFunctionHit (cv:=.ref c1) UH I.ok.glob glob t6 C hP ⟨⟩ ?_ hB λnY h' tk kp hs=>?_
  ·have:=codeAmong_snoc (pos:=pos) (c:=Value.ref c1) [] trivial rfl;exact this
  ·have J:Inv X af σ H { s with heap:=h'.push (kla_obj "<lambda>" (X.env.qual ++ "<lambda>") params body scope kF ((X.mg "__name__").getD .none) c1 nY),toks:=tk }:=I.kept λb o e=>Heap.get?_push_of_some _ (kp b o e);refine h _ c1 nY ((X.mg "__name__").getD .none) H _ (pin J hs (I.aY.fresh hs) (by intro v z;cases z) rfl) OH (Sm.cL.refl P H) (.inr ⟨c1,mt,OH⟩)
end
end L2
namespace L2
open PySem PySem.Spec PyProof.Rows PySem.W aR PySem.Calls
section
variable {X:Cx}{e body:Expr}{te:TE}{np kp pP pos:Pos}{params:Arguments}{scope:Scope}{P c:Addr}{N:List Str}{ok:List Int->Prop}{kf:List Int->List Int}{pn:Str}
theorem aX.okC {P:Program}{w:World}{K:PySem.W.Frag}{mg:Str->Option Value}{base:Heap}{x qual:Str}{st:Stmt}{f c:Addr}{fd:FuncData}{N ps:List Str}{k:Nat}{sp:Sp}(F:aX K x qual st f fd)(hc:fd.code=.ref c)(S:aA N ps (aq st))(len:∀ vs H Q E,sp vs H Q E->vs.length=ps.length)
  (iB:∀ (A:Around) (outer:List Env) (s:Shared) (H:Hp) (vs:List V) (Q:VK) (E:XK),c8 k (A.deeper (envOfC qual (aq st) s.heap.objs.size f (.ref c)))->sp vs H Q E ->
   ∃ t,mX (kB bZ P w K mg base N qual (aq st) f (.ref c) A outer s H E).Lh (aj st) t/\t { nx:=λ_ H'=>Q .bD H',rt:=Q } (start N vs) H):aO P w K mg base bZ (k + 1) f fd ps sp:=by
 obtain ⟨oc,od,kV,doc,pm,an,bI,ct,NC,rfl,lk,p5⟩:=F.ex;have hc:bI=.ref c:=hc;subst hc;refine OO lk p5 S len λA outer s H vs Q E hr MP=>?_;obtain ⟨t,h,q⟩:=iB A outer s H vs Q E hr MP;exact ⟨t,h.Lh,q⟩
end
end L2
namespace L2
open PySem PySem.Spec PyProof.Rows PySem.W
theorem Ll {K:PySem.W.Frag}{h:Heap}{P:Addr}(X:K.In h)(hP:h.get? P=some (tabObj #[]))(nt:noTabs K=true):K.lookup P=none:=by
 cases e:K.lookup P with
 | none=>rfl
 | some o=>
  have h1:=X P o e;rw [hP] at h1;cases h1;have h2:=xD.mp nt (P,_) (mem_of_lookupK e);exact absurd (show false=true from h2) zM
theorem vo {P:Program}{w:World}{K:PySem.W.Frag}{mg mb:Str->Option Value}{CX:MJ}{k:Nat}{fa a c T:Addr}{fd:FuncData}{x:Str}{sp:Sp}{aN:Shared}{vs:List Value}{ns:List Int}
  (KX:K.In aN.heap) (N1:aN.heap.Ns mainGlobals mg) (hb:aN.heap.Ns builtinsNs mb) (hbb:∀ x:Str,x ≠ "__name__" -> mb x=bootBuiltins x) (Xr:aN.heap.NoLimit) (hg:aN.gens=#[])
  (hT:aN.heap.get? T=some (tabObj #[])) (hC:codeHdIn K c T=true) (nt:noTabs K=true) (hbm:∃ bm ob,mg "__builtins__" = some (.ref bm)/\bm≠builtinsNs/\aN.heap.get? bm=some ob/\ob.cls=.type "module" /\ ob.dict=some builtinsNs/\ob.data=.plain)
  (ha:aN.heap.get? a=some { cls:=.type "list", data:=.seq vs.toArray }) (hi:IntsAre vs ns) (hl:ns.length<=sizeLine) (hr:c8 k callerA)
  (F:∀ base:Heap,K.In base->base.Ns mainGlobals mg->aS mg base->aO P w K mg base CX k fa fd [x] sp) (LL:∀ (s:Shared) (u:Value),BindsTo s fd ⟨[u],[]⟩ [(x,u)])
  (MP:∀ H:Hp,H T=some (.ju #[])->aG K H a (ns.map V.int)->sp [.ref a] H (λv _=>v=.bl true) λ_ _ _=>False)
  (XZ:∀ H e s',CX [] H aN (λ_ _ _=>False) e s'->False) :
  codeAny (model P w) callerA (.call (.ref fa) ⟨[.ref a],[]⟩) (λr s'=>r=.ok (.ret (.bool true))/\OldK aN.heap s'.heap/\s'.os=aN.os/\AllBare s'.gens) aN:=by
 have rv:=lR hi;have WI:=hi.length;have YX:a≠T:=λz=>by rw [z,hT] at ha;cases ha
 have lkT:=Ll KX hT nt;have isT:=((codeHd_of_K KX hC).tab hT).isCodeTable;have core:∀ H:Hp,(∀ b,H b=none\/(b=a/\∃ o xs,H b=some (.nN o (.lst xs)))\/(b=T/\H b=some (.ju #[])))->H T=some (.ju #[])->aG K H a (ns.map V.int)->fZ P w H aN.heap->(H a≠none->K.lookup a=none) ->
   codeAny (model P w) callerA (.call (.ref fa) ⟨[.ref a],[]⟩) (λr s'=>r=.ok (.ret (.bool true))/\OldK aN.heap s'.heap/\s'.os=aN.os/\AllBare s'.gens) aN:=by
  intro H hO hTH hS aY hK;have oi:∀ {b:Addr}{o:Obj},aN.heap.get? b=some o->H b=none->(lF aN.heap H).get? b=some o:=λe n=>LJ e n;have YS:∀ {b:Addr}{o:Obj},aN.heap.get? b=some o->(∀ i n,o.data≠.seq i n)->(∀ f,o.data≠.fields f)->H b=none:=λ{b o} e d1 d2=>by
   rcases hO b with q | ⟨rfl,_⟩ | ⟨rfl,_⟩
   ·exact q
   ·rw [ha] at e;cases e;exact absurd rfl (d1 _ _)
   ·rw [hT] at e;cases e;exact absurd rfl (d2 _)
  have Uo:∀ {b:Addr}{m:Str->Option Value},aN.heap.Ns b m->(lF aN.heap H).Ns b m:=λ{b m} ⟨o,es,ep,e,d,r⟩=>⟨o,es,ep,oi e (YS e (λi n z=>by rw [d] at z;cases z) λf z=>by rw [d] at z;cases z),d,r⟩;have ZJ:K.In (lF aN.heap H):=λb o e=>oi (KX b o e) (by
   rcases hO b with q | ⟨rfl,_,_,q⟩ | ⟨rfl,q⟩
   ·exact q
   ·rw [hK (by rw [q];simp)] at e;cases e
   ·rw [lkT] at e;cases e)
  have hM:Mod K mg (lF aN.heap H):=⟨ZJ,Uo N1,⟨mb,Uo hb,hbb⟩,let ⟨mc,h1,h2⟩:=Xr;⟨mc,Uo h1,h2⟩⟩;have hB:aS mg (lF aN.heap H):=by
   obtain ⟨bm,ob,b1,b2,b3,b4,b5,b6⟩:=hbm;refine ⟨bm,ob,b1,b2,λz=>?_,oi b3 (YS b3 (λi n z=>by rw [b6] at z;cases z) λf z=>by rw [b6] at z;cases z),b4,b5,b6⟩;obtain ⟨o,es,ep,e,d,_⟩:=N1;rw [z,e] at b3;cases b3;rw [b6] at d;cases d
  have e0:sZ P w K mg (lF aN.heap H) callerA [] aN H:=⟨rfl,hM,λb o e=>NH e,Nat.le_of_eq (vF _ _),trivial,λb hb=>absurd (show b∈([]:List Addr) from hb) (by simp),aY,.of_eq hg⟩;refine codeAny_mono ((F _ ZJ (Uo N1) hB).run callerA [] aN H ⟨[.ref a],[]⟩ [.ref a] [.ref a] _ _ hr e0 (LL aN (.ref a)) (.cons rfl .nil) (MP H hTH hS)) λr s' h=>?_;cases r with
  | error e=>exact (XZ H e s' h).elim
  | ok fl=>
   cases fl with
   | next=>exact False.elim h
   | brk=>exact False.elim h
   | cont=>exact False.elim h
   | ret u=>
    obtain ⟨v,H',os,bare,un,SJ,r',q⟩:=h;have q':v=.bl true:=q;subst q';obtain rfl:u=Value.bool true:=r';have all:∀ b o,aN.heap.get? b=some o->s'.heap.get? b=some o\/(b=T/\∃ ps,s'.heap.get? T=some (tabObj ps)):=λb o e=>by
     rcases hO b with q | ⟨_,ob,xs,z⟩ | ⟨rfl,z⟩
     ·exact .inl (un.keep b o e q (by intro z;exact absurd (show b∈([]:List Addr) from z) (by simp)) (by simp))
     ·have z2:=un.lG b ob _ z;obtain ⟨e1,_⟩:=aY b _ z;obtain ⟨e2,_⟩:=SJ b _ z2;rw [e] at e1;cases e1;exact .inl e2
     ·obtain ⟨more,z2⟩:=un.kY b _ z;have e2:s'.heap.get? b=some _:=SJ b _ z2;exact .inr ⟨rfl,_,e2⟩
    refine ⟨rfl,⟨λb o e=>?_,λb o e=>?_⟩,os,bare⟩
    ·rcases all b o e with q | ⟨rfl,ps,q⟩
     ·exact .inl q
     ·rw [hT] at e;cases e;exact .inr (.inl ⟨isT,rfl,#[],ps,rfl,by rw [Array.empty_append];exact q⟩)
    ·rcases all b o e with q | ⟨rfl,ps,q⟩
     ·exact ⟨_,q⟩
     ·exact ⟨_,q⟩
 cases hk:K.lookup a with
 | some o=>
  have e:=KX a o hk;rw [ha] at e;cases e;refine core (λb=>if b=T then some (.ju #[]) else none) (λb=>?_) (if_pos rfl) (.inr ⟨_,vs.toArray,_,hk,rfl,rfl,rfl,by rw [zO,WI];exact hl,by simpa using rv⟩) (λb u z=>?_) λz=>absurd (if_neg YX) z
  ·by_cases hb:b=T
   ·exact .inr (.inr ⟨hb,if_pos hb⟩)
   ·exact .inl (if_neg hb)
  ·by_cases hb:b=T
   ·have z':=(if_pos hb).symm.trans z;cases z';subst hb;exact hT
   ·have z':=(if_neg hb).symm.trans z;cases z'
 | none=>
  have UU:(λb=>if b=T then some (HO.ju #[]) else if b=a then some (.nN { cls:=.type "list", data:=.seq vs.toArray } (.lst (ns.map V.int))) else none) a=some (.nN { cls:=.type "list", data:=.seq vs.toArray } (.lst (ns.map V.int))):=(if_neg YX).trans (if_pos rfl);refine core (λb=>if b=T then some (.ju #[]) else if b=a then some (.nN { cls:=.type "list", data:=.seq vs.toArray } (.lst (ns.map V.int))) else none) (λb=>?_) (if_pos rfl) (.inl (.inr ⟨{ cls:=.type "list", data:=.seq vs.toArray },UU⟩)) (λb u z=>?_) λ_=>hk
  ·by_cases hb:b=T
   ·exact .inr (.inr ⟨hb,if_pos hb⟩)
   ·by_cases eW:b=a
    ·exact .inr (.inl ⟨eW,_,_,(if_neg hb).trans (if_pos eW)⟩)
    ·exact .inl ((if_neg hb).trans (if_neg eW))
  ·by_cases hb:b=T
   ·have z':=(if_pos hb).symm.trans z;cases z';subst hb;exact hT
   ·by_cases eW:b=a
    ·have z':=((if_neg hb).trans (if_pos eW)).symm.trans z;cases z';subst eW;exact ⟨ha,by rw [zA];exact hl,vs,_,rv,ha⟩
    ·have z':=((if_neg hb).trans (if_neg eW)).symm.trans z;cases z'
theorem Ko {l:PySem.W.OpenLaw}{n k:Nat}{q:Program}{loose:List Str}{XP:(Str->Option Value)->Heap->Prop}{YP:World->Heap->Prop}{d:DefRec}{K:Params->PySem.W.Frag}{CX:World->MJ}{sp:World->Sp}{x:Str}{T:Addr}
  (hn:l.most=some n) (hn2:n<=sizeLine) (SX:d.params.defaults=[]) (hr:c8 k callerA)
  (hY:∀ (w:World) (h:Heap),YP w h->(K w.params).In h/\h.get? T=some (tabObj #[])) (nt:∀ w:World,noTabs (K w.params)=true)
  (F:∀ (w:World) (mg:Str->Option Value) (fa:Addr) (h:Heap),(K w.params).In h->h.Ns mainGlobals mg->mg d.name=some (.ref fa) ->
   ∃ fd:FuncData,(∃ c,codeHdIn (K w.params) c T=true)/\(∀ (s:Shared) (u:Value),BindsTo s fd ⟨[u],[]⟩ [(x,u)]) /\
    ∀ base:Heap,(K w.params).In base->base.Ns mainGlobals mg->aS mg base->aO l.prog w (K w.params) mg base (CX w) k fa fd [x] (sp w))
  (MP:∀ (w:World) (H:Hp) (a:Addr) (ns:List Int),ns.length<=n->H T=some (.ju #[])->aG (K w.params) H a (ns.map V.int)->sp w [.ref a] H (λv _=>v=.bl true) λ_ _ _=>False)
  (XZ:∀ (w:World) (H:Hp) (s:Shared) (e:Value) (s':Shared),CX w [] H s (λ_ _ _=>False) e s'->False) :
  PySem.W.WalkO q loose XP YP l.row.toRowW d [] (λf vs=>PySem.call f vs):=by
 refine Att.ql hn SX λw cO aN mg mb fa o pm cd doc a vs ns G Y ho hd p5 hmg Qm hints hlen hg=>?_;obtain ⟨KX,tX⟩:=hY w _ Y;obtain ⟨fd,⟨c,hC⟩,hb,hF⟩:=F w mg fa _ KX G.T.g hmg;exact vo KX G.T.g G.T.b G.T.builtins G.T.nolimit hg tX hC (nt w) G.T.bmain Qm hints (zz hlen hn2) hr hF hb (λH hO hS=>MP w H a ns hlen hO hS) λH e s'=>XZ w H aN e s'
end L2
namespace Sm
open PySem L2 aR
theorem bM {K:PySem.W.Frag}{H:Hp}{a:Addr}{xs:List V}{i:Int}{v:V}{Q:V->Prop}(h:H a=some (.tup xs))(hi:dI xs i=some v)(q:Q v):∃ p Rv i' v',V.ref a=.ref p/\V.int i=.int i'/\bq K H p Rv/\dI Rv i'=some v'/\Q v':=⟨a,xs,i,v,rfl,rfl,bq.of h,hi,q⟩
theorem bw {K:PySem.W.Frag}{H:Hp}{a:Addr}{xs:List V}{i:Int}{v:V}{Q:V->Prop}(h:H a=some (.lst xs))(hi:dI xs i=some v)(q:Q v):∃ p Rv i' v',V.ref a=.ref p/\V.int i=.int i'/\aG K H p Rv/\dI Rv i'=some v'/\Q v':=⟨a,xs,i,v,rfl,rfl,aG.of h,hi,q⟩
theorem qP {P:List Value->Prop}{us:List Value}{n:Nat}(h:us.length=n + 1)(q:∀ a r,r.length=n->P (a::r)):P us:=by
 cases us with
 | nil=>cases h
 | cons a r=>exact q a r (Nat.succ.inj h)
theorem Ry {P:List Value->Prop}{us:List Value}(h:us.length=0)(q:P []):P us:=by rw [List.eq_nil_of_length_eq_zero h];exact q
theorem ML {fd:FuncData}{ps:List Str}{us:List Value}(h:us.length=1)(q:∀ a,bindArgs fd ⟨[a],[]⟩=pure (ps.zip [a])):bindArgs fd ⟨us,[]⟩=pure (ps.zip us):=qP (P:=λus=>bindArgs fd ⟨us,[]⟩=pure (ps.zip (us))) h λa us h=>Ry (P:=λus=>bindArgs fd ⟨a::us,[]⟩=pure (ps.zip (a::us))) h (q a)
theorem tD {fd:FuncData}{ps:List Str}{us:List Value}(h:us.length=2)(q:∀ a b,bindArgs fd ⟨[a,b],[]⟩=pure (ps.zip [a,b])):bindArgs fd ⟨us,[]⟩=pure (ps.zip us):=qP (P:=λus=>bindArgs fd ⟨us,[]⟩=pure (ps.zip (us))) h λa us h=>qP (P:=λus=>bindArgs fd ⟨a::us,[]⟩=pure (ps.zip (a::us))) h λb us h=>Ry (P:=λus=>bindArgs fd ⟨a::b::us,[]⟩=pure (ps.zip (a::b::us))) h (q a b)
theorem qQ {fd:FuncData}{ps:List Str}{us:List Value}(h:us.length=3)(q:∀ a b c,bindArgs fd ⟨[a,b,c],[]⟩=pure (ps.zip [a,b,c])):bindArgs fd ⟨us,[]⟩=pure (ps.zip us):=qP (P:=λus=>bindArgs fd ⟨us,[]⟩=pure (ps.zip (us))) h λa us h=>qP (P:=λus=>bindArgs fd ⟨a::us,[]⟩=pure (ps.zip (a::us))) h λb us h=>qP (P:=λus=>bindArgs fd ⟨a::b::us,[]⟩=pure (ps.zip (a::b::us))) h λc us h=>Ry (P:=λus=>bindArgs fd ⟨a::b::c::us,[]⟩=pure (ps.zip (a::b::c::us))) h (q a b c)
theorem V4 {fd:FuncData}{ps:List Str}{us:List Value}(h:us.length=4)(q:∀ a b c d,bindArgs fd ⟨[a,b,c,d],[]⟩=pure (ps.zip [a,b,c,d])):bindArgs fd ⟨us,[]⟩=pure (ps.zip us):=qP (P:=λus=>bindArgs fd ⟨us,[]⟩=pure (ps.zip (us))) h λa us h=>qP (P:=λus=>bindArgs fd ⟨a::us,[]⟩=pure (ps.zip (a::us))) h λb us h=>qP (P:=λus=>bindArgs fd ⟨a::b::us,[]⟩=pure (ps.zip (a::b::us))) h λc us h=>qP (P:=λus=>bindArgs fd ⟨a::b::c::us,[]⟩=pure (ps.zip (a::b::c::us))) h λd us h=>Ry (P:=λus=>bindArgs fd ⟨a::b::c::d::us,[]⟩=pure (ps.zip (a::b::c::d::us))) h (q a b c d)
theorem Rz {fd:FuncData}{ps:List Str}{us:List Value}(h:us.length=5)(q:∀ a b c d e,bindArgs fd ⟨[a,b,c,d,e],[]⟩=pure (ps.zip [a,b,c,d,e])):bindArgs fd ⟨us,[]⟩=pure (ps.zip us):=qP (P:=λus=>bindArgs fd ⟨us,[]⟩=pure (ps.zip (us))) h λa us h=>qP (P:=λus=>bindArgs fd ⟨a::us,[]⟩=pure (ps.zip (a::us))) h λb us h=>qP (P:=λus=>bindArgs fd ⟨a::b::us,[]⟩=pure (ps.zip (a::b::us))) h λc us h=>qP (P:=λus=>bindArgs fd ⟨a::b::c::us,[]⟩=pure (ps.zip (a::b::c::us))) h λd us h=>qP (P:=λus=>bindArgs fd ⟨a::b::c::d::us,[]⟩=pure (ps.zip (a::b::c::d::us))) h λe us h=>Ry (P:=λus=>bindArgs fd ⟨a::b::c::d::e::us,[]⟩=pure (ps.zip (a::b::c::d::e::us))) h (q a b c d e)
theorem ex5 {gw gu gq gn gj:Type}{P:gw->gu->gq->gn->gj->Prop}(x0:gw)(x1:gu)(x2:gq)(x3:gn)(x4:gj)(h:P x0 x1 x2 x3 x4):∃ y0:gw,∃ y1:gu,∃ y2:gq,∃ y3:gn,∃ y4:gj,P y0 y1 y2 y3 y4:=⟨x0,x1,x2,x3,x4,h⟩
theorem UQ {gw gu gq gn gj iO:Type}{P:gw->gu->gq->gn->gj->iO->Prop}(x0:gw)(x1:gu)(x2:gq)(x3:gn)(x4:gj)(x5:iO)(h:P x0 x1 x2 x3 x4 x5):∃ y0:gw,∃ y1:gu,∃ y2:gq,∃ y3:gn,∃ y4:gj,∃ y5:iO,P y0 y1 y2 y3 y4 y5:=⟨x0,x1,x2,x3,x4,x5,h⟩
theorem vI {gw gu gq gn gj iO jG:Type}{P:gw->gu->gq->gn->gj->iO->jG->Prop}(x0:gw)(x1:gu)(x2:gq)(x3:gn)(x4:gj)(x5:iO)(x6:jG)(h:P x0 x1 x2 x3 x4 x5 x6):∃ y0:gw,∃ y1:gu,∃ y2:gq,∃ y3:gn,∃ y4:gj,∃ y5:iO,∃ y6:jG,P y0 y1 y2 y3 y4 y5 y6:=⟨x0,x1,x2,x3,x4,x5,x6,h⟩
theorem Z0 {gw gu gq gn gj iO jG m5:Type}{P:gw->gu->gq->gn->gj->iO->jG->m5->Prop}(x0:gw)(x1:gu)(x2:gq)(x3:gn)(x4:gj)(x5:iO)(x6:jG)(x7:m5)(h:P x0 x1 x2 x3 x4 x5 x6 x7):∃ y0:gw,∃ y1:gu,∃ y2:gq,∃ y3:gn,∃ y4:gj,∃ y5:iO,∃ y6:jG,∃ y7:m5,P y0 y1 y2 y3 y4 y5 y6 y7:=⟨x0,x1,x2,x3,x4,x5,x6,x7,h⟩
theorem OP {gw gu gq gn gj iO jG m5 qN:Type}{P:gw->gu->gq->gn->gj->iO->jG->m5->qN->Prop}(x0:gw)(x1:gu)(x2:gq)(x3:gn)(x4:gj)(x5:iO)(x6:jG)(x7:m5)(x8:qN)(h:P x0 x1 x2 x3 x4 x5 x6 x7 x8):∃ y0:gw,∃ y1:gu,∃ y2:gq,∃ y3:gn,∃ y4:gj,∃ y5:iO,∃ y6:jG,∃ y7:m5,∃ y8:qN,P y0 y1 y2 y3 y4 y5 y6 y7 y8:=⟨x0,x1,x2,x3,x4,x5,x6,x7,x8,h⟩
theorem LY {gw gu gq gn gj iO jG m5 qN Kl:Type}{P:gw->gu->gq->gn->gj->iO->jG->m5->qN->Kl->Prop}(x0:gw)(x1:gu)(x2:gq)(x3:gn)(x4:gj)(x5:iO)(x6:jG)(x7:m5)(x8:qN)(x9:Kl)(h:P x0 x1 x2 x3 x4 x5 x6 x7 x8 x9):∃ y0:gw,∃ y1:gu,∃ y2:gq,∃ y3:gn,∃ y4:gj,∃ y5:iO,∃ y6:jG,∃ y7:m5,∃ y8:qN,∃ y9:Kl,P y0 y1 y2 y3 y4 y5 y6 y7 y8 y9:=⟨x0,x1,x2,x3,x4,x5,x6,x7,x8,x9,h⟩
theorem QI {gw gu gq gn gj iO jG m5 qN Kl qO:Type}{P:gw->gu->gq->gn->gj->iO->jG->m5->qN->Kl->qO->Prop}(x0:gw)(x1:gu)(x2:gq)(x3:gn)(x4:gj)(x5:iO)(x6:jG)(x7:m5)(x8:qN)(x9:Kl)(Rw:qO)(h:P x0 x1 x2 x3 x4 x5 x6 x7 x8 x9 Rw):∃ y0:gw,∃ y1:gu,∃ y2:gq,∃ y3:gn,∃ y4:gj,∃ y5:iO,∃ y6:jG,∃ y7:m5,∃ y8:qN,∃ y9:Kl,∃ VY:qO,P y0 y1 y2 y3 y4 y5 y6 y7 y8 y9 VY:=⟨x0,x1,x2,x3,x4,x5,x6,x7,x8,x9,Rw,h⟩
theorem X8 {gw gu gq gn gj iO jG m5 qN Kl qO O1:Type}{P:gw->gu->gq->gn->gj->iO->jG->m5->qN->Kl->qO->O1->Prop}(x0:gw)(x1:gu)(x2:gq)(x3:gn)(x4:gj)(x5:iO)(x6:jG)(x7:m5)(x8:qN)(x9:Kl)(Rw:qO)(x11:O1)(h:P x0 x1 x2 x3 x4 x5 x6 x7 x8 x9 Rw x11):∃ y0:gw,∃ y1:gu,∃ y2:gq,∃ y3:gn,∃ y4:gj,∃ y5:iO,∃ y6:jG,∃ y7:m5,∃ y8:qN,∃ y9:Kl,∃ VY:qO,∃ y11:O1,P y0 y1 y2 y3 y4 y5 y6 y7 y8 y9 VY y11:=⟨x0,x1,x2,x3,x4,x5,x6,x7,x8,x9,Rw,x11,h⟩
theorem oO {K:PySem.W.Frag}{H:Hp}{a:Addr}{v0 v1:V}{Q:V->V->Prop}(h:H a=some (.tup [v0,v1]))(q:Q v0 v1):∃ a' xs,V.ref a=.ref a'/\bq K H a' xs/\xs.length=2/\∃ w0 r0,xs=w0::r0/\∃ w1 r1,r0=w1::r1/\r1=[]/\Q w0 w1:=⟨a,_,rfl,bq.of h,rfl,_,_,rfl,_,_,rfl,rfl,q⟩
theorem un3 {K:PySem.W.Frag}{H:Hp}{a:Addr}{v0 v1 v2:V}{Q:V->V->V->Prop}(h:H a=some (.tup [v0,v1,v2]))(q:Q v0 v1 v2):∃ a' xs,V.ref a=.ref a'/\bq K H a' xs/\xs.length=3/\∃ w0 r0,xs=w0::r0/\∃ w1 r1,r0=w1::r1/\∃ w2 r2,r1=w2::r2/\r2=[]/\Q w0 w1 w2:=⟨a,_,rfl,bq.of h,rfl,_,_,rfl,_,_,rfl,_,_,rfl,rfl,q⟩
theorem Kq {K:PySem.W.Frag}{H:Hp}{a:Addr}{v0 v1 v2 v3:V}{Q:V->V->V->V->Prop}(h:H a=some (.tup [v0,v1,v2,v3]))(q:Q v0 v1 v2 v3):∃ a' xs,V.ref a=.ref a'/\bq K H a' xs/\xs.length=4/\∃ w0 r0,xs=w0::r0/\∃ w1 r1,r0=w1::r1/\∃ w2 r2,r1=w2::r2/\∃ w3 r3,r2=w3::r3/\r3=[]/\Q w0 w1 w2 w3:=⟨a,_,rfl,bq.of h,rfl,_,_,rfl,_,_,rfl,_,_,rfl,_,_,rfl,rfl,q⟩
theorem zr {α:Sort _}{A Q:α->Prop}{x:α}(a:A x)(q:Q x):∃ y,A y/\Q y:=⟨x,a,q⟩
theorem kT {α β:Sort _}{A Q:α->β->Prop}{x:α}{y:β}(a:A x y)(q:Q x y):∃ x y,A x y/\Q x y:=⟨x,y,a,q⟩
theorem aH {α β:Sort _}{A B Q:α->β->Prop}{x:α}{y:β}(a:A x y)(b:B x y)(q:Q x y):∃ x y,A x y/\B x y/\Q x y:=⟨x,y,a,b,q⟩
def O2 (ms:List M4)(j:Int):Int:=((ms[j.toNat]?).map (·.t)).getD 0
def Yy (ms:List M4)(k:Nat):List Int:=(numsTo ms k ms.length).map (O2 ms)
section
variable {n k w:Nat}{ms:List M4}{day:Int}
end
def nextOf (ts:List (Int×Int))(b:Int)(k:Nat):Int:=match ts[k + 1]? with
 | some q=>q.1
 | none=>b
end Sm
namespace L2
open PySem
end L2
namespace Sm
open PySem L2 aR
end Sm
namespace L2
open PySem
theorem MT.go {P p:Addr}{pos:Pos}{qual:Str}{H H':Hp}(m:MT P pos qual H)(pu:Sm.br H p)(g:Sm.Go p H H'):MT P pos qual H':=by
 obtain ⟨x,y,z,e⟩:=pu;rcases m with m | ⟨c,m,m2⟩
 ·exact .inl (g.1 _ _ (bY m e (by intro z;cases z)) m)
 ·exact .inr ⟨c,g.1 _ _ (bY m e (by intro z;cases z)) m,g.1 _ _ (bY m2 e (by intro z;cases z)) m2⟩
theorem MT.put {P l:Addr}{pos:Pos}{qual:Str}{H:Hp}{xs:List V}{o:HO}(m:MT P pos qual H)(e:H l=some (.lst xs)):MT P pos qual (upd H l o):=by
 rcases m with m | ⟨c,m,m2⟩
 ·exact .inl (by rw [xX (bY m e (by intro z;cases z))];exact m)
 ·exact .inr ⟨c,by rw [xX (bY m e (by intro z;cases z))];exact m,by rw [xX (bY m2 e (by intro z;cases z))];exact m2⟩
end L2
namespace Sm
open PySem L2 aR
theorem MT.Ku {T:Addr}{lp:Pos}{q:Str}{H H':Hp}(m:MT T lp q H)(b:cL T H H'):bC H H':=λx u e=>b x _ (λz=>by
 rcases m with m | ⟨_,m,_⟩ <;> (rw [z,m] at e;cases e)) e
theorem MT.keep {T:Addr}{lp:Pos}{q:Str}{H H':Hp}(m:MT T lp q H)(b:cL T H H'){x:Addr}{u:HO}(e:H x=some u)(n:∀ ys,u≠.ju ys):H' x=some u:=b x u (λz=>by
 rcases m with m | ⟨_,m,_⟩ <;> (rw [z,m] at e;cases e;exact n _ rfl)) e
theorem MT.R4 {T p:Addr}{lp:Pos}{q:Str}{H H':Hp}(m:MT T lp q H)(b:cL T H H')(pu:br H p):br H' p:=by obtain ⟨x,y,z,e⟩:=pu;exact ⟨x,y,z,MT.keep m b e (by intro ys z;cases z)⟩
theorem MT.seq {T:Addr}{lp:Pos}{q:Str}{K:PySem.W.Frag}{H H':Hp}{a:Addr}{xs:List V}(m:MT T lp q H)(b:cL T H H')(h:aG K H a xs):aG K H' a xs:=by
 rcases h with (h | ⟨o,h⟩) | h
 ·exact .inl (.inl (MT.keep m b h (by intro ys z;cases z)))
 ·exact .inl (.inr ⟨o,MT.keep m b h (by intro ys z;cases z)⟩)
 ·exact .inr h
structure L4 where
 s:Nat
 w:Nat
 a:Int
 z:Int
end Sm
namespace L2
open PySem PySem.Spec PyProof.Rows
end L2
namespace Sm
open PySem L2 aR
def Y7 (kv:List (Int×Int)):List (Key×V):=kv.map λp=>(Sum.inl p.1,V.int p.2)
theorem ff {kv:List (Int×Int)}{w:Int}:(cV (Y7 kv) (Sum.inl w)).isSome=kv.any λp=>decide (p.1=w):=by
 unfold cV Y7;rw [xH,Option.isSome_map,List.find?_isSome,List.any_eq_true];constructor
 ·rintro ⟨p,hp,e⟩;obtain ⟨q,hq,rfl⟩:=zQ.mp hp;have e1:=of_decide_eq_true e;exact ⟨q,hq,decide_eq_true (Sum.inl.inj e1)⟩
 ·rintro ⟨q,hq,e⟩;exact ⟨_,zQ.mpr ⟨q,hq,rfl⟩,decide_eq_true (congrArg Sum.inl (of_decide_eq_true e))⟩
theorem map_some {α β:Type}{f:α->β}{o o':Option α}{a:α}(e:o.map f=o'.map f)(h:o'=some a):∃ b,o=some b/\f b=f a:=by
 subst h;cases o with
 | none=>cases e
 | some b=>exact ⟨b,rfl,Option.some.inj e⟩
open Classical in
noncomputable def cut (M:Addr->Prop) (H:Hp):Hp:=λc=>if M c then none else H c
end Sm
namespace L2
open PySem PySem.Spec PyProof.Rows
section
variable {X:Cx}
end
end L2
namespace Sm
open PySem L2 aR
structure TK where
 T:List (List (Option Int))
 K:List (List (Option Int))
section
variable {aa:List Int}{ms:List M4}{ls:List (Addr×L4)}{d:OX}{m j:Nat}{s:RS}{M:M4}{L:Addr×L4}
end
section
variable {CA CH:Addr}{H:Hp}{r:Addr}{σ:St}{i:Nat}{Q:VK} {E2:XK}{d:OX}
end
abbrev Ds:=List (V×Option (Int×Int))
def X0 (ms:List M4)(d:Option (Int×Int)):Bool:=match d with
 | none=>false
 | some (k,g)=>decide (0<=k) && (decide (k < ms.length) && (match ms[k.toNat]? with | some m=>decide (g=m.lo) || decide (g=m.hi) | none=>false))
def YE (ms:List M4):Fn->Int->List (Option (Int×Int))->Option Fn
 | f,_,[]=>some f
 | _,_,none::_=>none
 | f,bh,some (k,g)::r=>match ms[k.toNat]? with
  | none=>none
  | some m=>if X0 ms (some (k,g))=true/\bh < k/\below (f g.toNat) m.t=true then YE ms (aJ f ⟨g.toNat,(if g=m.lo then m.hi else m.lo).toNat,m.t⟩) k r else none
def tt (ms:List M4)(s:Nat)(a:Int):Option Ds->Option Fn
 | none=>none
 | some ps=>YE ms (aE s a) (-1) (ps.map (·.2))
def c6 (H:Hp)(l:Addr)(n:Nat)(ws:List (Addr×Nat×Int)):Prop:=H l=some (.lst (ws.map λx=>V.ref x.1))/\∀ x∈ws,H x.1=some (.tup [.int (x.2.1:Int),.int x.2.2])/\x.2.1 < n
theorem c6.same {H H':Hp}{l:Addr}{n:Nat}{ws:List (Addr×Nat×Int)}(h:c6 H l n ws)(s:au H H'):c6 H' l n ws:=⟨s _ _ h.1,λx hx=>⟨s _ _ (h.2 x hx).1,(h.2 x hx).2⟩⟩
theorem pV {g a b:Int}:NT (V.int g) [V.int a,V.int b]=(decide (g=a) || decide (g=b)):=by rw [NS];congr 1 <;> exact decide_eq_decide.mpr eq_comm
section
variable {K:PySem.W.Frag}{H:Hp}{σ:St}{lt p:Addr}{n g:Nat}{f:Fn}{t:Int}{Q:VK}
end
section
variable {K:PySem.W.Frag}{H:Hp}{a b:Addr}{xs ys:List V}{lo hi:Option Int}{Q:VK}
end
section
variable {K:PySem.W.Frag}{D:Ends}{σ:St}{HI H:Hp}{l la lb lf:Addr}{x:V}{ss A C:List (Addr×Int×Int)}{n:Nat}{o:Option (Int×Int)}
end
section
variable {K:PySem.W.Frag}{D:Ends} {HI H0:Hp}{l la lb lf lm:Addr}{ms:List V}{ss A C:List (Addr×Int×Int)}{n:Nat} {s0 s1 s2 s3 s4 s5 s6 s8:Option V}
end
section
variable {K:PySem.W.Frag}{σ:St}{H:Hp}
end
section
variable {K:PySem.W.Frag}{σ:St}{H:Hp}
end
end Sm
namespace L2
end L2
namespace Sm
open PySem L2
theorem Km {α β:Type}{xs:List α}{ys:List β}{i:Nat}{x:α}{y:β}(hx:xs[i]?=some x)(hy:ys[i]?=some y):(xs.zip ys)[i]?=some (x,y):=by rw [List.getElem?_zip_eq_some];exact ⟨hx,hy⟩
theorem nH {α:Type}{ps:List (Addr×α)}{i:Nat}{r:Addr×α}(h:ps[i]?=some r):(ps.map (·.2))[i]?=some r.2:=by rw [zD,h];rfl
end Sm
namespace L2
open PySem PySem.Spec PyProof.Rows
section
variable {prog:Program}{w:World}{A:Around}{R:Result->Shared->Prop}{s:Shared} {elt t1 i1 t2 i2:Expr} {abh abg:List Expr}{scope:Scope}{pos:Pos}{it acc:Value}{env:Env}
abbrev tests (ifs:List Expr)(env:Env):Sem Bool:=forIn ifs true λc r=>if r=true then do let ok <- isTrue c env (eval c env);pure (ForInStep.yield ok) else pure (ForInStep.yield r)
end
section
variable {X:Cx}{af:List (Addr×Obj)}{σ:St}{H:Hp}{s:Shared}
end
section
variable {K:PySem.W.Frag}{a b:Addr}{xs ys:List V}{n:Nat}{caps:List Nat} {g g2:TG} {tc tc2:TT} {wi2:TI}{te:TE} {σ τ0:St}{H:Hp} {acE:List V}{Qf:Addr->Hp->List V->Prop}{C:St->List V->Hp->Prop}
end
end L2
namespace Sm
open PySem L2
theorem getD_at {α:Type}{l:List α}{i:Nat}{x d:α}(h:l[i]?=some x):l.getD i d=x:=by rw [zV,h];rfl
end Sm
namespace L2
open PySem PySem.Spec PyProof.Rows
section
variable {X:Cx}
theorem NO {K:PySem.W.Frag}{t:String}(h:t = "NoneType" \/ t = "bool" \/ t = "int" \/ t = "str" \/ t = "list" \/ t = "tuple" \/ t = "dict"):PySem.W.kitOne K (.type t) (.type "str")=some (t == "str"):=by rcases h with rfl | rfl | rfl | rfl | rfl | rfl | rfl <;> first | rfl | decide +kernel
theorem n6:dc X (.builtin "isinstance") (λxs H Q=>∃ x t,xs=[x,.ty "str"]/\kX H x=some t/\Q (.bl (t == "str")) H):=by intro af s σ H xs us Q I r h;obtain ⟨x,t,rfl,ht,q⟩:=h;obtain ⟨u,w',rfl,r1,r2⟩:=vals2 r;cases r2;exact mC I r1 (Ks ht) (NO (gY ht)) λtk=>⟨.bl _,H,I.tok tk,rfl,q⟩
end
section
variable {n:Nat}{caps:List Nat}{g:TG}{tc:TT}{te:TE}{σ:St}{H:Hp}{Qf:Addr->Hp->List V->Prop}
end
section
variable {X:Cx}
abbrev TJ:=Str->St->Hp->(Str->Hp->Prop)->Prop
end
end L2
namespace Sm
open PySem L2 aR
structure Tie where
 h:Nat
 t:Nat
 m:Int
def hd (ts:List Tie)(a:Nat):Nat:=match ts[a / 2]? with
 | some x=>if a % 2=0 then x.t else x.h
 | none=>0
def o5 (L:L4)(M:M4):Prop:=L.a < M.t/\L.s≠L.w/\(M.lo=(L.s:Int)\/M.hi=(L.s:Int))/\(M.lo=(L.w:Int)\/M.hi=(L.w:Int))
instance (L:L4) (M:M4):Decidable (o5 L M):=by unfold o5;infer_instance
section
variable {aa:List Int}{ms:List M4}{ls:List (Addr×L4)}{d:OX}{m j:Nat}{s:RS}{M:M4}{L:Addr×L4}{o:Option (Nat×Int)}
end
theorem gP:∀ {ms:List M4}{t:Int},(ms.Pairwise λa b=>a.t<=b.t)->∀ {j:Nat}{m:M4},ms[j]?=some m->(j < cnt ms t↔m.t<=t)
 | [],t,_,j,m,h=>by simp at h
 | a::ms,t,o,j,m,h=>by
  have o:=List.pairwise_cons.mp o;by_cases c:a.t<=t
  ·have e:cnt (a::ms) t=cnt ms t + 1:=by unfold cnt;rw [List.filter_cons,if_pos (by simp [c])];rfl
   rw [e];cases j with
   | zero=>cases h;exact ⟨λ_=>c,λ_=>by omega⟩
   | succ j=>rw [<-gP (t:=t) o.2 (j:=j) h];omega
  ·have e:cnt (a::ms) t=0:=by
    unfold cnt;rw [List.filter_cons,if_neg (by simp [c]),List.filter_eq_nil_iff.mpr (λm hm=>by have:=o.1 m hm;simp;omega)];rfl
   rw [e];have:a.t<=m.t:=by
    cases j with
    | zero=>cases h;exact zx _
    | succ j=>exact o.1 m (zB h)
   omega
theorem QS (ms:List M4)(t:Int):cnt ms t<=ms.length:=List.length_filter_le _ _
theorem Mn {ms:List M4}(o:ms.Pairwise λa b=>a.t<=b.t){x z:Int}(h:x<=z):cnt ms x<=cnt ms z:=by refine Classical.byContradiction λc=>?_;have l:=QS ms x;have e:ms[cnt ms z]?=some ms[cnt ms z]:=zF (by omega);have h1:=(gP (t:=x) o e).mp (by omega);have h2:=(gP (t:=z) o e).mpr (by omega);omega
section
variable {lo hi:Nat->Nat}{g:Nat->Option Nat} {a s0:Nat}
end
end Sm
namespace Sm
open PySem L2
def SS (n:Nat)(f:Nat->Int):Int:=((List.range n).map f).sum
theorem iL {n:Nat}{f:Nat->Int}:SS (n + 1) f=SS n f + f n:=by unfold SS;rw [List.range_succ,zG,yu];simp
theorem uC {n:Nat}{f g:Nat->Int}(h:∀ k,k < n->f k<=g k):SS n f<=SS n g:=by
 induction n with
 | zero=>exact zx _
 | succ n ih=>
  rw [iL,iL];have:=ih λk hk=>h k (by omega);have:=h n (by omega);omega
theorem MB {n:Nat}{f g:Nat->Int}(h:∀ k,k < n->f k=g k):SS n f=SS n g:=by
 have a:=uC (n:=n) (f:=f) (g:=g) λk hk=>by rw [h k hk];exact zx _
 have b:=uC (n:=n) (f:=g) (g:=f) λk hk=>by rw [h k hk];exact zx _
 omega
theorem uB (n:Nat):SS n (λ_=>0)=0:=by
 induction n with
 | zero=>rfl
 | succ n ih=>rw [iL,ih];rfl
theorem sY {n:Nat}{f:Nat->Int}{j:Nat}{x:Int}(h:j < n):SS n (λk=>if k=j then x else f k) + f j=SS n f + x:=by
 induction n with
 | zero=>omega
 | succ n ih=>
  rw [iL,iL];by_cases e:j=n
  ·subst e;rw [if_pos rfl,MB (f:=λk=>if k=j then x else f k) (g:=f) λk hk=>by rw [if_neg (by omega)]];omega
  ·have:=ih (by omega);rw [if_neg (by omega:¬ n=j)];omega
theorem QX {n:Nat}{f g:Nat->Int}{i j:Nat}(hi:i < n)(hj:j < n)(ne:i≠j)(h:∀ k,k < n->k≠i->k≠j->f k<=g k):SS n f + g i + g j<=SS n g + f i + f j:=by
 have a:=sY (n:=n) (f:=g) (x:=f i) hi;have b:=sY (n:=n) (f:=λk=>if k=i then f i else g k) (x:=f j) hj;rw [if_neg (Ne.symm ne)] at b;have c:=uC (n:=n) (f:=f) (g:=λk=>if k=j then f j else if k=i then f i else g k) λk hk=>by
  by_cases e1:k=j
  ·rw [if_pos e1,e1];exact zx _
  ·rw [if_neg e1];by_cases e2:k=i
   ·rw [if_pos e2,e2];exact zx _
   ·rw [if_neg e2];exact h k hk e2 e1
 omega
theorem QY {n:Nat}{j:Nat}{x:Int}(h:j < n):SS n (λk=>if k=j then x else 0)=x:=by have:=sY (n:=n) (f:=λ_=>0) (x:=x) h;rw [uB] at this;omega
section
variable {aa:List Int}{ms:List M4}{ls ws:List S3}{gs ts:List Bool}{rs:List (List Int)}
end
end Sm
namespace L2
open PySem PySem.Spec PyProof.Rows
end L2
namespace Sm
open PySem L2
abbrev ou:=Addr×List Int
abbrev cJ:=Addr×List ou
structure gQ (H:Hp) (l:Addr) (nm w sz:Nat) (P:List cJ):Prop where
 top:H l=some (.lst (P.map λa=>V.ref a.1))
 str:∀ a∈P,H a.1=some (.lst (a.2.map λb=>V.ref b.1))
 row:∀ a∈P,∀ b∈a.2,H b.1=some (.lst (b.2.map V.int))
 len:P.length=nm + 1
 tw:∀ a∈P,a.2.length=w
 KS:∀ a∈P,∀ b∈a.2,b.2.length=sz
 pos:∀ a∈P,∀ b∈a.2,∀ x∈b.2,(0:Int)<=x
theorem gQ.same {H H':Hp}{l:Addr}{nm w sz:Nat}{P:List cJ}(h:gQ H l nm w sz P)(s:au H H'):gQ H' l nm w sz P:=
 ⟨s _ _ h.top,λa ha=>s _ _ (h.str a ha),λa ha b hb=>s _ _ (h.row a ha b hb),h.len,h.tw,h.KS,h.pos⟩
abbrev gc:=List (List (List Int))
def aD (P:List cJ):gc:=P.map λa=>a.2.map (·.2)
def bg (V:gc)(i j s:Nat):Int:=((V.getD i []).getD j []).getD s 0
theorem wj {P:List cJ}{i j s:Nat}{a:cJ}{b:ou}(h1:P[i]?=some a)(h2:a.2[j]?=some b):bg (aD P) i j s=b.2.getD s 0:=by unfold bg aD;simp only [zV,zD,h1,yf,Option.getD_some,h2]
theorem sH {xs:List Int}{s:Nat}{x:Int}(h:xs[s]?=some x):xs.getD s 0=x:=by rw [zV,h];rfl
def mY (V:gc):Prop:=∀ st∈V,∀ r∈st,r.getD 0 0=0
def OZ (ms:List M4)(V:gc)(sz k v:Nat)(z:Int):Prop:=∀ i,i<=cnt ms z->∀ s,s < sz->s.testBit k=true->bg V i v s<=bg V i v (s - 2 ^ k)
def MD (ms:List M4)(V:gc)(sz:Nat)(ws:List (Addr×Nat×Int)):Prop:=∀ k x,ws[k]?=some x->OZ ms V sz k x.2.1 x.2.2
def ME (V:gc)(i w sz:Nat):Prop:=∀ j < w,∀ s < sz,bg V i j s<=bg V (i + 1) j s
def uD (V:gc)(nm w sz:Nat):Prop:=∀ i < nm,ME V i w sz
def qu (V:gc)(i g o s:Nat):Prop:=∀ p,p<=s->p &&& s=p->bg V i g s<=1 + bg V (i + 1) g p + bg V (i + 1) o (s - p)
def bU (V:gc)(i g o sz:Nat):Prop:=∀ s < sz,qu V i g o s
def f9 (ms:List M4)(V:gc)(sz:Nat):Prop:=∀ x∈cU ms ms.length,bU V x.n x.w.g x.w.o sz
theorem cZ (ms:List M4)(z:Int):cnt ms z<=ms.length:=List.length_filter_le _ _
section
variable {H:Hp}{l:Addr}{nm w sz:Nat}{P:List cJ}
end
theorem iH (a b:Nat):Builtin.bitAnd (a:Int) (b:Int)=((a &&& b:Nat):Int):=by unfold Builtin.bitAnd;rw [decide_eq_true (by omega:(0:Int)<=(a:Int))];rfl
theorem ia (k:Nat):(1:Int) * 2 ^ (k:Int).toNat=((2 ^ k:Nat):Int):=by rw [Int.one_mul,zm];push_cast;rfl
theorem Nj (s k:Nat):Builtin.bitAnd ((s:Int) / 2 ^ (k:Int).toNat) 1=if s.testBit k then 1 else 0:=by
 rw [zm];have e:(s:Int) / 2 ^ k=((s / 2 ^ k:Nat):Int):=by push_cast;rfl
 rw [e,show (1:Int)=((1:Nat):Int) from rfl,iH,Nat.and_one_is_mod,Nat.testBit_eq_decide_div_mod_eq];have:=Nat.mod_two_eq_zero_or_one (s / 2 ^ k);rcases this with h | h <;> rw [h] <;> rfl
def iX (s k:Nat):Nat:=if s.testBit k then s - 2 ^ k else s
theorem Oc (s k:Nat):s &&& 2 ^ k=if s.testBit k then 2 ^ k else 0:=by
 refine zy λi=>?_;rw [yE,zq];by_cases e:k=i
 ·subst e;cases h:s.testBit k with
  | true=>rw [if_pos rfl,zq];simp
  | false=>rw [if_neg (by decide)];simp
 ·rw [decide_eq_false e,ym];split
  ·rw [zq,decide_eq_false e]
  ·simp
theorem NL (s k:Nat):(s:Int) - Builtin.bitAnd (s:Int) (((2 ^ k:Nat):Int))=((iX s k:Nat):Int):=by
 rw [iH,Oc];unfold iX;cases h:s.testBit k with
 | true=>
  have:=Nat.ge_two_pow_of_testBit h;rw [if_pos rfl,if_pos rfl];omega
 | false=>rw [if_neg (by decide),if_neg (by decide)];simp
def fj (s:Nat):List (Nat×Nat):=((List.range (s + 1)).filter λp=>p &&& s == p).map λp=>(p,s - p)
theorem cS {s p q:Nat}:(p,q)∈fj s↔(p<=s/\p &&& s=p)/\q=s - p:=by
 unfold fj;rw [zQ];constructor
 ·rintro ⟨x,hx,e⟩;rw [List.mem_filter,zn,beq_iff_eq] at hx;cases e;exact ⟨⟨by omega,hx.2⟩,rfl⟩
 ·rintro ⟨⟨h1,h2⟩,rfl⟩;exact ⟨p,by rw [List.mem_filter,zn,beq_iff_eq];exact ⟨by omega,h2⟩,rfl⟩
def Nf:Sp:=λvs H Q _=>∃ l ws n,vs=[.ref l]/\c6 H l n ws/\ws.length<=60/\Q (.int (((2 ^ ws.length:Nat):Int) - 1)) H
def KN:Sp:=λvs H Q _=>∃ s k:Nat,vs=[.int (s:Int),.int (k:Int)]/\k<=60/\Q (.int ((iX s k:Nat):Int)) H
def KL:Sp:=λvs H Q _=>∃ s:Nat,vs=[.int (s:Int)]/\s<=900/\∀ l (rs:List (Addr×Nat×Nat)) H',au H H'->H' l=some (.lst (rs.map λr=>V.ref r.1))->(∀ r∈rs,H' r.1=some (.tup [.int (r.2.1:Int),.int (r.2.2:Int)]))->rs.map (·.2)=fj s->Q (.ref l) H'
structure dQ (H:Hp) (b l lp:Addr) (aa:List Int) (tr tm:Addr) (ps:List (Addr×M4)) (ws:List (Addr×Nat×Int)) (P:List cJ):Prop where
 bk:aL H b aa tr tm ps
 gd:Good aa.length (ps.map (·.2))
 r1:1<=aa.length
 u0:aa.length<=12
 wa:c6 H l aa.length ws
 w1:1<=ws.length
 w4:ws.length<=4
 pr:gQ H lp ps.length aa.length (2 ^ ws.length) P
theorem dQ.same {H H':Hp}{b l lp:Addr}{aa:List Int}{tr tm:Addr}{ps:List (Addr×M4)}{ws:List (Addr×Nat×Int)}{P:List cJ}(h:dQ H b l lp aa tr tm ps ws P)(s:au H H'):dQ H' b l lp aa tr tm ps ws P:=
 ⟨h.bk.same s,h.gd,h.r1,h.u0,h.wa.same s,h.w1,h.w4,h.pr.same s⟩
theorem l5 {n:Nat}(h:n<=4):2 ^ n<=16:=Nat.pow_le_pow_right (by decide) h
def ng:Sp:=λvs H Q _=>∃ b l lp aa tr tm ps ws P,vs=[.ref b,.ref l,.ref lp]/\dQ H b l lp aa tr tm ps ws P/\∀ bb H',au H H'->(bb=true↔MD (ps.map (·.2)) (aD P) (2 ^ ws.length) ws)->Q (.bl bb) H'
theorem qJ {xs:List Int}{n:Nat}(h:n < xs.length):dI (xs.map V.int) (n:Int)=some (V.int (xs.getD n 0)):=
 xq (by rw [zD,zV,zF h];rfl)
theorem ua {xs:List Int}{n:Nat}(h:n < xs.length):xs[n]?=some (xs.getD n 0):=by rw [zV,zF h];rfl
theorem QV {α:Type}{f:α->Bool}{l:List α}:(l.map f).any id=false↔∀ x∈l,f x=false:=by rw [List.any_map,List.any_eq_false];exact ⟨λh x hx=>by have:=h x hx;simpa using this,λh x hx=>by simpa using h x hx⟩
def gtB (xs ys:List Int):List Bool:=(xs.zip ys).map λp=>decide (p.2 < p.1)
theorem OM {xs ys:List Int}{n:Nat}(ex:xs.length=n)(ey:ys.length=n):(gtB xs ys).any id=false↔∀ s < n,xs.getD s 0<=ys.getD s 0:=by
 unfold gtB;rw [QV];constructor
 ·intro h s hs;have:=h (xs.getD s 0,ys.getD s 0) (zB (Km (ua (by omega)) (ua (by omega))));have:=of_decide_eq_false this;omega
 ·rintro h ⟨x,y⟩ hx;obtain ⟨s,hs⟩:=yA.mp hx;rw [List.getElem?_zip_eq_some] at hs;have s1:s < n:=by have:=(zC.mp hs.1).1;omega
  have:=h s s1;rw [sH hs.1,sH hs.2] at this;exact decide_eq_false (by simp only;omega)
theorem split_le {s:Nat}{r:Nat×Nat}(h:r∈fj s):r.1<=s/\r.2<=s:=by obtain ⟨p,q⟩:=r;obtain ⟨⟨h1,h2⟩,rfl⟩:=cS.mp h;exact ⟨h1,by simp only;omega⟩
theorem split_len (s:Nat):(fj s).length<=s + 1:=by unfold fj;rw [zA];exact zz (List.length_filter_le _ _) (by rw [yJ];exact zE _)
theorem qX {α:Type}{l:List α}{n j:Nat}{a:α}(h:(l.take n)[j]?=some a):j < n/\l[j]?=some a:=by
 rw [List.getElem?_take] at h;split at h
 ·rename_i c;exact ⟨c,h⟩
 ·cases h
theorem c6.S9 {p:Addr}{H H':Hp}{l:Addr}{n:Nat}{ws:List (Addr×Nat×Int)}(h:c6 H l n ws)(pu:br H p)(n1:l≠p)(g:Go p H H'):c6 H' l n ws:=
 ⟨g.1 _ _ n1 h.1,λx hx=>⟨g.aQ pu _ _ (h.2 x hx).1,(h.2 x hx).2⟩⟩
def rG:Sp:=λvs H Q _=>∃ b l lp aa tr tm ps ws P,vs=[.ref b,.ref l,.ref lp]/\dQ H b l lp aa tr tm ps ws P/\∀ bb H',au H H'->(bb=true↔mY (aD P))->Q (.bl bb) H'
def uS:Sp:=λvs H Q _=>∃ a b c,∃ xs ys zs:List Int,∃ sz,vs=[.ref a,.ref b,.ref c]/\H a=some (.lst (xs.map V.int))/\H b=some (.lst (ys.map V.int))/\H c=some (.lst (zs.map V.int))/\xs.length=sz/\ys.length=sz/\zs.length=sz/\sz<=16 /\
 ∀ bb H',au H H'->(bb=true↔∀ s < sz,∀ p,p<=s->p &&& s=p->xs.getD s 0<=1 + ys.getD p 0 + zs.getD (s - p) 0)->Q (.bl bb) H'
def uQ:Sp:=λvs H Q _=>∃ b l lp aa tr tm ps ws P,vs=[.ref b,.ref lp]/\dQ H b l lp aa tr tm ps ws P /\
 ∀ bb H',au H H'->(bb=true↔uD (aD P) ps.length aa.length (2 ^ ws.length)/\f9 (ps.map (·.2)) (aD P) (2 ^ ws.length))->Q (.bl bb) H'
def MK (ms:List M4)(V:gc)(i sz:Nat):Prop:=∀ m,ms[i]?=some m->bU V i m.lo.toNat m.hi.toNat sz/\bU V i m.hi.toNat m.lo.toNat sz
theorem sC {ms:List M4}{V:gc}{sz:Nat}(h:∀ i < ms.length,MK ms V i sz):f9 ms V sz:=λx hx=>by
 obtain ⟨m,hm,_,c⟩:=dR hx;have:=h x.n (zC.mp hm).1 m hm;rcases c with ⟨e1,e2⟩ | ⟨e1,e2⟩
 ·rw [<-e1,<- e2];exact this.1
 ·rw [<-e1,<- e2];exact this.2
theorem sD {ms:List M4}{V:gc}{sz i:Nat}{m:M4}(h:f9 ms V sz)(hm:ms[i]?=some m):bU V i m.lo.toNat m.hi.toNat sz/\bU V i m.hi.toNat m.lo.toNat sz:=by have:=lO hm ms.length (zC.mp hm).1;exact ⟨h _ this.1,h _ this.2⟩
section
variable {H H':Hp}{p f a:Addr}{o:HO}{nm w sz:Nat}
end
section
variable {H H' H0 H1 H2 HS:Hp}{p f c:Addr}{o:HO}{nm w sz:Nat}{xs:List V}
end
theorem Lc {a b:Nat}(h:a &&& b=0):a ||| b=a + b:=by
 obtain ⟨n,hn⟩:∃ n,a + b < 2 ^ n:=⟨a + b,Nat.lt_two_pow_self⟩;have ha:a < 2 ^ n:=by omega
 have hb:b < 2 ^ n:=by omega
 have z:BitVec.ofNat n a &&& BitVec.ofNat n b=0#n:=by
  apply BitVec.eq_of_toNat_eq;rw [BitVec.toNat_and,BitVec.toNat_ofNat,BitVec.toNat_ofNat,xF ha,xF hb,h];simp
 have e:=congrArg BitVec.toNat (BitVec.add_eq_or_of_and_eq_zero _ _ z);rw [BitVec.toNat_add,BitVec.toNat_or,BitVec.toNat_ofNat,BitVec.toNat_ofNat,xF ha,xF hb,xF hn] at e;exact e.symm
theorem pK {a b:Nat}(h:a &&& b=0):(a ||| b) - a=b:=by rw [Lc h];omega
def bA (p s:Nat):Prop:=∀ i,p.testBit i=true->s.testBit i=true
theorem cR {p s:Nat}:p &&& s=p↔bA p s:=by
 constructor
 ·intro h i hi;have:=congrArg (λz=>Nat.testBit z i) h;simp only [yE,hi,xG] at this;exact this
 ·intro h;refine zy λi=>?_;rw [yE];cases e:p.testBit i with
  | false=>rfl
  | true=>rw [h i e];rfl
theorem bA.le {p s:Nat}(h:bA p s):p<=s:=by rw [<-cR.mpr h];exact Nat.and_le_right
theorem gH {p s:Nat}(h:bA p s):p ||| (s - p)=s/\p &&& (s - p)=0/\∀ i,(s - p).testBit i=(s.testBit i && !p.testBit i):=by
 have d:p &&& (s ^^^ p)=0:=by
  refine zy λi=>?_;rw [yE,Nat.testBit_xor,z8];cases e:p.testBit i with
  | false=>rfl
  | true=>rw [h i e];rfl
 have o:p ||| (s ^^^ p)=s:=by
  refine zy λi=>?_;rw [zo,Nat.testBit_xor];cases e:p.testBit i with
  | false=>simp
  | true=>rw [h i e];rfl
 have e:s - p=s ^^^ p:=by have:=pK d;rw [o] at this;exact this
 rw [e];refine ⟨o,d,λi=>?_⟩;rw [Nat.testBit_xor];cases e:p.testBit i with
 | false=>simp
 | true=>rw [h i e];rfl
theorem kJ {s:Nat}(h:∀ i,s.testBit i=false):s=0:=zy λi=>by rw [h i,z8]
theorem Mg {a b:Nat}(h:∀ i,a.testBit i=true->b.testBit i=false):a &&& b=0:=kJ λi=>by
 rw [yE];cases e:a.testBit i with
 | false=>rfl
 | true=>rw [h i e];rfl
def bS (P:Nat->Bool):Nat->Nat
 | 0=>0
 | k + 1=>bS P k ||| (if P k then 2 ^ k else 0)
theorem dM (P:Nat->Bool):∀ k i,(bS P k).testBit i=(decide (i < k) && P i)
 | 0,i=>by rw [bS,z8];simp
 | k + 1,i=>by
  rw [bS,zo,dM P k i];by_cases e:i=k
  ·subst e;cases h:P i <;> simp [h]
  ·cases h:P k
   ·rw [if_neg (by decide),z8];by_cases l:i < k
    ·simp [l,yy l]
    ·simp [l,show ¬ i < k + 1 by omega]
   ·rw [if_pos rfl,zq,decide_eq_false (Ne.symm e)];by_cases l:i < k
    ·simp [l,yy l]
    ·simp [l,show ¬ i < k + 1 by omega]
theorem Good.jT {w:Int}{ms:List M4}(gd:Good w ms):ms.Pairwise λa b=>a.t<=b.t:=gd.order.imp λh=>by rcases h with h | h <;> omega
abbrev Wq:=List (Nat×Int)
structure dP (ms:List M4) (V:Nat->Nat->Nat->Int) (W K:Nat) (ws:Wq):Prop where
 zero:∀ j,j<=ms.length->∀ w,w < W->V j w 0=0
 out:∀ k x,ws[k]?=some x->∀ j,j<=cnt ms x.2->∀ s,s < 2 ^ K->s.testBit k=true->V j x.1 s<=V j x.1 (s - 2 ^ k)
 keep:∀ j < ms.length,∀ w < W,∀ s < 2 ^ K,V j w s<=V (j + 1) w s
 give:∀ j g o t,cK ms j g o t->∀ a b,a &&& b=0->a ||| b < 2 ^ K->V j g (a ||| b)<=1 + V (j + 1) g a + V (j + 1) o b
theorem dP.keeps {ms:List M4}{V:Nat->Nat->Nat->Int}{W K:Nat}{ws:Wq}(F:dP ms V W K ws){w s:Nat}(hw:w < W)(hs:s < 2 ^ K){j:Nat}:∀ d,j + d<=ms.length->V j w s<=V (j + d) w s
 | 0,_=>zx _
 | d + 1,h=>xE (F.keeps hw hs d (by omega)) (F.keep (j + d) (by omega) w hw s hs)
inductive lK (ms:List M4):Nat->Fn->List (Nat×Nat)->Fn->Prop
 | nil (j:Nat) (f:Fn):lK ms j f [] f
 | cons {j m g o:Nat}{t x:Int}{f h:Fn}{T:List (Nat×Nat)} (hj:j<=m) (l:cK ms m g o t) (hx:f g=some x) (lt:x < t) (r:lK ms (m + 1) (if f o=none then put f o (some t) else f) T h):lK ms j f ((m,g)::T) h
def bN (f:Fn)(ws:Wq)(k:Nat):Bool:=match ws[k]? with
 | some x=>bX (f x.1) x.2
 | none=>true
def bR (f:Fn)(ws:Wq):Prop:=∀ k:Nat,∀ x:Nat×Int,ws[k]?=some x->bX (f x.1) x.2=true
theorem rV {ms:List M4}{V:Nat->Nat->Nat->Int}{W K:Nat}{ws:Wq}(F:dP ms V W K ws){j v a:Nat}(ha:a < 2 ^ K){P:Nat->Bool}(hP:∀ k,P k=true->∃ l,ws[k]?=some (v,l)/\j<=cnt ms l)(d:∀ k,P k=true->a.testBit k=false):∀ n,n<=K->V j v (a ||| bS P n)<=V j v a
 | 0,_=>by rw [bS,Nat.or_zero];exact zx _
 | n + 1,hn=>by
  have ih:=rV F ha hP d n (by omega);rw [bS];cases e:P n with
  | false=>rw [if_neg (by decide),Nat.or_zero];exact ih
  | true=>
   rw [if_pos rfl,<- Nat.or_assoc];obtain ⟨l,hl,le⟩:=hP n e;have nb:(a ||| bS P n).testBit n=false:=by rw [zo,d n e,dM];simp
   have dj:2 ^ n &&& (a ||| bS P n)=0:=Mg λi hi=>by
    rw [zq] at hi;rw [<-of_decide_eq_true hi];exact nb
   have ml:bS P n < 2 ^ K:=Nat.lt_pow_two_of_testBit _ λi hi=>by rw [dM];simp;omega
   have lt:a ||| bS P n ||| 2 ^ n < 2 ^ K:=Nat.or_lt_two_pow (Nat.or_lt_two_pow ha ml) (Nat.pow_lt_pow_right (by decide) (by omega));have:=F.out n (v,l) hl j le _ lt (by rw [zo,zq];simp);rw [Nat.or_comm (a ||| bS P n) (2 ^ n),pK dj] at this;rw [Nat.or_comm];exact xE this ih
theorem fG {f:Fn}{ws:Wq}{k:Nat}{x:Nat×Int}(h:ws[k]?=some x):bN f ws k=bX (f x.1) x.2:=by unfold bN;rw [h]
theorem NI {ms:List M4}{V:Nat->Nat->Nat->Int}{W K:Nat}{ws:Wq}(F:dP ms V W K ws)(gd:Good W ms)(hK:ws.length=K):∀ {j:Nat}{f h:Fn}{T:List (Nat×Nat)},lK ms j f T h->j<=ms.length->(∀ i x,f i=some x->i < W)->bR h ws ->
  ∃ s:Nat->Nat,(∀ w,s w < 2 ^ K)/\(∀ w,s w≠0->f w≠none)/\(∀ w w' k,(s w).testBit k=true->(s w').testBit k=true->w=w')/\(∀ w k,(s w).testBit k=true->k < K/\bN f ws k=false)/\(∀ k < K,bN f ws k=false->∃ w < W,(s w).testBit k=true)/\SS W (λw=>V j w (s w))<=T.length:=by
 intro j f h T tr;induction tr with
 | nil j f=>
  intro jn fw sv;refine ⟨λ_=>0,λ_=>yM K,λ_ h=>absurd rfl h,(λw w' k h=>by rw [z8] at h;cases h),(λw k h=>by rw [z8] at h;cases h),λk hk hf=>?_,?_⟩
  ·obtain ⟨x,hx⟩:∃ x,ws[k]?=some x:=⟨_,zF (by omega)⟩;rw [fG hx,sv k x hx] at hf;cases hf
  ·rw [MB (g:=λ_=>0) λw hw=>F.zero j jn w hw,uB];exact zx _
 | @cons j m g o t x f h T hj l hx lt r ih=>
  intro jn fw sv;obtain ⟨gW,oW,go⟩:=l.inside gd;have mn:m < ms.length:=by obtain ⟨m',hm,_⟩:=l;exact (zC.mp hm).1
  obtain ⟨s,s1,s2,s3,s4,s5,s6⟩:=ih (by omega) (λi y hy=>by
   split at hy
   ·by_cases e:i=o
    ·rw [e];exact oW
    ·rw [wz e] at hy;exact fw i y hy
   ·exact fw i y hy) sv
  have kp:∀ w < W,∀ z < 2 ^ K,V j w z<=V m w z:=λw hw z hz=>by
   have:=F.keeps hw hz (j:=j) (m - j) (by omega);rwa [show j + (m - j)=m by omega] at this
  by_cases fo:f o=none
  ·rw [if_pos fo] at s2 s4 s5;rw [ze]
   let P:Nat->Bool:=λk=>bN (put f o (some t)) ws k && !bN f ws k
   have hP:∀ k,P k=true->∃ l,ws[k]?=some (o,l)/\m + 1<=cnt ms l:=λk hk=>by
    simp only [P,zb,Bool.not_eq_true'] at hk;cases hw:ws[k]? with
    | none=>rw [show bN f ws k=true by unfold bN;rw [hw]] at hk;cases hk.2
    | some y=>
     rw [fG hw,fG hw] at hk;by_cases e:y.1=o
     ·refine ⟨y.2,by rw [<-e],?_⟩;rw [e,cC] at hk;obtain ⟨z,hz,le⟩:=bJ.mp hk.1;cases hz;obtain ⟨m',hm,et,_⟩:=l;exact (gP gd.jT hm).mpr (by rw [et];exact le)
     ·rw [wz e] at hk;rw [hk.1] at hk;cases hk.2
   have hold:∀ k,bN f ws k=true->bN (put f o (some t)) ws k=true:=λk hk=>by
    cases hw:ws[k]? with
    | none=>unfold bN;rw [hw]
    | some y=>
     rw [fG hw] at hk ⊢;by_cases e:y.1=o
     ·rw [e,fo] at hk;cases hk
     ·rw [wz e];exact hk
   let N:=bS P K
   have nb:∀ i,N.testBit i=(decide (i < K) && P i):=dM P K;have nS:∀ w i,(s w).testBit i=true->N.testBit i=false:=λw i h=>by
    have:=(s4 w i h).2;rw [nb];simp only [P,this,yQ,ym]
   have Nl:N < 2 ^ K:=Nat.lt_pow_two_of_testBit _ λi hi=>by rw [nb];simp;omega
   have so:s o ||| N < 2 ^ K:=Nat.or_lt_two_pow (s1 o) Nl;have d2:s g &&& (s o ||| N)=0:=Mg λi hi=>by
    rw [zo,nS g i hi];cases e:(s o).testBit i with
    | false=>rfl
    | true=>exact absurd (s3 g o i hi e) go
   have gl:s g ||| (s o ||| N) < 2 ^ K:=Nat.or_lt_two_pow (s1 g) so;have q1:=F.give m g o t l (s g) (s o ||| N) d2 gl;have q2:=rV F (s1 o) hP (λk hk=>by
    cases e:(s o).testBit k with
    | false=>rfl
    | true=>
     have:=(s4 o k e).2;simp only [P,this,yQ] at hk;cases hk) K (zE _)
   have q2':V (m + 1) o (s o ||| N)<=V (m + 1) o (s o):=q2;have q3:=kp g gW _ gl;refine ⟨λw=>if w=g then s g ||| (s o ||| N) else if w=o then 0 else s w,λw=>?_,λw hw=>?_,λw w' k h1 h2=>?_,λw k hk=>?_,λk hk hf=>?_,?_⟩
   ·simp only;split
    ·exact gl
    ·split
     ·exact yM K
     ·exact s1 w
   ·by_cases e1:w=g
    ·rw [e1,hx];exact λz=>nomatch z
    ·simp only [if_neg e1] at hw;by_cases e2:w=o
     ·rw [if_pos e2] at hw;exact absurd rfl hw
     ·rw [if_neg e2] at hw;have:=s2 w hw;rwa [wz e2] at this
   ·have get:∀ u,(if u=g then s g ||| (s o ||| N) else if u=o then 0 else s u).testBit k=true->(u=g/\((s g).testBit k=true\/(s o).testBit k=true\/N.testBit k=true))\/(u≠g/\u≠o/\(s u).testBit k=true):=λu hu=>by
     by_cases e1:u=g
     ·rw [if_pos e1,zo,zo,yh,yh] at hu;exact .inl ⟨e1,hu⟩
     ·rw [if_neg e1] at hu;by_cases e2:u=o
      ·rw [if_pos e2,z8] at hu;cases hu
      ·rw [if_neg e2] at hu;exact .inr ⟨e1,e2,hu⟩
    rcases get w h1 with ⟨a1,b1⟩ | ⟨a1,c1,b1⟩ <;> rcases get w' h2 with ⟨a2,b2⟩ | ⟨a2,c2,b2⟩
    ·rw [a1,a2]
    ·rcases b1 with b1 | b1 | b1
     ·exact absurd (s3 _ _ _ b2 b1) a2
     ·exact absurd (s3 _ _ _ b2 b1) c2
     ·rw [nS _ _ b2] at b1;cases b1
    ·rcases b2 with b2 | b2 | b2
     ·exact absurd (s3 _ _ _ b1 b2) a1
     ·exact absurd (s3 _ _ _ b1 b2) c1
     ·rw [nS _ _ b1] at b2;cases b2
    ·exact s3 _ _ _ b1 b2
   ·dsimp only at hk;have low:∀ u,(s u).testBit k=true->k < K/\bN f ws k=false:=λu hu=>by
     refine ⟨(s4 u k hu).1,?_⟩;cases e:bN f ws k with
     | false=>rfl
     | true=>have:=(s4 u k hu).2;rw [hold k e] at this;cases this
    by_cases e1:w=g
    ·rw [if_pos e1,zo,zo,yh,yh] at hk;rcases hk with h | h | h
     ·exact low _ h
     ·exact low _ h
     ·rw [nb] at h;simp only [P,zb,decide_eq_true_eq,Bool.not_eq_true'] at h;exact ⟨h.1,h.2.2⟩
    ·rw [if_neg e1] at hk;by_cases e2:w=o
     ·rw [if_pos e2,z8] at hk;cases hk
     ·rw [if_neg e2] at hk;exact low _ hk
   ·cases e:bN (put f o (some t)) ws k with
    | true=>
     refine ⟨g,gW,?_⟩;dsimp only;rw [if_pos rfl,zo,zo,nb];simp [P,e,hf,hk]
    | false=>
     obtain ⟨w,hw,hb⟩:=s5 k hk e;by_cases e1:w=g
     ·exact ⟨g,gW,by dsimp only;rw [if_pos rfl,zo,<- e1,hb];rfl⟩
     ·by_cases e2:w=o
      ·exact ⟨g,gW,by dsimp only;rw [if_pos rfl,zo,zo,<- e2,hb];simp⟩
      ·exact ⟨w,hw,by dsimp only;rw [if_neg e1,if_neg e2];exact hb⟩
   ·have z:=QX (n:=W) (f:=λw=>V j w (if w=g then s g ||| (s o ||| N) else if w=o then 0 else s w)) (g:=λw=>V (m + 1) w (s w)) gW oW go λw hw n1 n2=>by
     simp only [if_neg n1,if_neg n2];exact xE (kp w hw _ (s1 w)) (F.keep m mn w hw _ (s1 w))
    simp only [if_pos,if_neg (Ne.symm go),if_true] at z;have z0:=F.zero j jn o oW;rw [z0] at z
    push_cast
    omega
  ·rw [if_neg fo] at s2 s4 s5;refine ⟨s,s1,s2,s3,s4,s5,xE (uC λw hw=>xE (kp w hw _ (s1 w)) (F.keep m mn w hw _ (s1 w))) (xE s6 ?_)⟩;rw [ze];omega
theorem KZ {ms:List M4}{V:Nat->Nat->Nat->Int}{W K:Nat}{ws:Wq}(F:dP ms V W K ws)(gd:Good W ms)(hK:ws.length=K){v:Nat}{a:Int}{h:Fn}{T:List (Nat×Nat)}(hv:v < W)(tr:lK ms (cnt ms a) (aE v a) T h)(sv:bR h ws):V (cnt ms a) v (2 ^ K - 1)<=T.length:=by
 have cl:=cZ ms a;obtain ⟨s,s1,s2,s3,s4,s5,s6⟩:=NI F gd hK tr cl (λi x hx=>by
  unfold aE at hx;split at hx
  ·rename_i e;rw [e];exact hv
  ·cases hx) sv
 have only:∀ w,w≠v->s w=0:=λw hw=>by
  by_cases e:s w=0
  ·exact e
  ·exact absurd (if_neg hw) (s2 w e)
 let P:Nat->Bool:=λk=>bN (aE v a) ws k
 have hP:∀ k,(P k && decide (k < K))=true->∃ l,ws[k]?=some (v,l)/\cnt ms a<=cnt ms l:=λk hk=>by
  simp only [P,zb,decide_eq_true_eq] at hk;obtain ⟨x,hx⟩:∃ x,ws[k]?=some x:=⟨_,zF (by omega)⟩;rw [fG hx] at hk;obtain ⟨y,hy,le⟩:=bJ.mp hk.1;unfold aE at hy;split at hy
  ·rename_i e;cases hy;exact ⟨x.2,by rw [<-e];exact hx,Mn gd.jT le⟩
  ·cases hy
 have q:=rV F (s1 v) hP (λk hk=>by
  simp only [P,zb] at hk;cases e:(s v).testBit k with
  | false=>rfl
  | true=>rw [(s4 v k e).2] at hk;cases hk.1) K (zE _)
 have e:s v ||| bS (λk=>P k && decide (k < K)) K=2 ^ K - 1:=by
  refine zy λi=>?_;rw [zo,dM,Nat.testBit_two_pow_sub_one];by_cases hi:i < K
  ·cases hb:bN (aE v a) ws i with
   | true=>simp [P,hb,hi]
   | false=>
    obtain ⟨w,hw,b⟩:=s5 i hi hb;by_cases e:w=v
    ·rw [e] at b;simp [b,hi]
    ·rw [only w e,z8] at b;cases b
  ·have:(s v).testBit i=false:=by
    cases b:(s v).testBit i with
    | false=>rfl
    | true=>exact absurd (s4 v i b).1 hi
   simp [this,hi]
 rw [e] at q;have z:SS W (λw=>V (cnt ms a) w (s w))=V (cnt ms a) v (s v):=by
  rw [<-QY (n:=W) (j:=v) (x:=V (cnt ms a) v (s v)) hv];refine MB λw hw=>?_;by_cases e:w=v
  ·subst e;rw [if_pos rfl]
  ·rw [if_neg e,only w e];exact F.zero _ cl w hw
 omega
def dz (ms:List M4)(ws:Wq)(j w i:Nat):Bool:=match ws[i]? with
 | some x=>decide (x.1=w) && decide (j<=cnt ms x.2)
 | none=>false
def aC (ms:List M4)(ws:Wq)(j w s:Nat):Nat:=bS (λi=>s.testBit i && !dz ms ws j w i) ws.length
theorem qA {ms:List M4}{ws:Wq}{j w s:Nat}(hs:s < 2 ^ ws.length)(i:Nat):(aC ms ws j w s).testBit i=(s.testBit i && !dz ms ws j w i):=by
 unfold aC;rw [dM];by_cases h:i < ws.length
 ·simp [h]
 ·rw [Nat.testBit_lt_two_pow (zS hs (Nat.pow_le_pow_right (by decide) (by omega)))];simp
theorem wW {ms:List M4}{ws:Wq}{j w s:Nat}(hs:s < 2 ^ ws.length):bA (aC ms ws j w s) s:=λi hi=>by
 rw [qA hs,zb] at hi;exact hi.1
theorem bA.lt {p s n:Nat}(h:bA p s)(hs:s < n):p < n:=z4 h.le hs
theorem l6 {ms:List M4}{ws:Wq}{j w s:Nat}(hs:s < 2 ^ ws.length):aC ms ws j w (aC ms ws j w s)=aC ms ws j w s:=
 zy λi=>by
  rw [qA ((wW hs).lt hs),qA hs];cases s.testBit i <;> cases dz ms ws j w i <;> rfl
theorem l8 {ms:List M4}{ws:Wq}{j w s t:Nat}(ht:t < 2 ^ ws.length)(h:bA s t):bA (aC ms ws j w s) (aC ms ws j w t):=λi hi=>by
 rw [qA (h.lt ht),zb] at hi;rw [qA ht,h i hi.1,hi.2];rfl
def dB (ms:List M4)(j:Nat)(F:Option (Nat->Nat->Int))(w s:Nat)(x:Int):Prop:=
 (s=0/\x=0)\/(s≠0/\match F with
  | none=>x=(ms.length:Int) + 1
  | some F=>((∀ o t,¬ cK ms j w o t)/\x=F w s)\/∃ o t,cK ms j w o t/\x<=F w s/\(∀ p,bA p s->x<=1 + F w p + F o (s - p))/\(x=F w s\/∃ p,bA p s/\x=1 + F w p + F o (s - p)))
def je (ms:List M4)(ws:Wq)(j:Nat)(F:Option (Nat->Nat->Int))(w:Nat)(r:Nat->Int):Prop:=
 ∀ s < 2 ^ ws.length,(aC ms ws j w s=s->dB ms j F w s (r s))/\r s=r (aC ms ws j w s)
theorem jk {W:Nat}{ms:List M4}(gd:Good W ms){j g o o':Nat}{t t':Int}(h:cK ms j g o t)(h':cK ms j g o' t'):o=o'/\t=t':=by have i1:=(h.inside gd).2.2;have i2:=(h'.inside gd).2.2;obtain ⟨m,hm,e,c⟩:=h;obtain ⟨m',vD,e',c'⟩:=h';rw [hm] at vD;cases vD;rcases c with ⟨a1,a2⟩ | ⟨a1,a2⟩ <;> rcases c' with ⟨b1,b2⟩ | ⟨b1,b2⟩ <;> first | exact ⟨by omega,by omega⟩ | omega
structure dh (ms:List M4) (V:Nat->Nat->Nat->Int) (W:Nat) (ws:Wq):Prop where
 last:∀ w < W,je ms ws ms.length none w (V ms.length w)
 prev:∀ j < ms.length,∀ w < W,je ms ws j (some (V (j + 1))) w (V j w)
section
variable {ms:List M4}{V:Nat->Nat->Nat->Int}{W:Nat}{ws:Wq}
theorem dh.row (D:dh ms V W ws){j w s:Nat}(hj:j<=ms.length)(hw:w < W)(hs:s < 2 ^ ws.length):∃ F,(∀ G,F=some G->j < ms.length/\G=V (j + 1))/\(F=none->j=ms.length)/\dB ms j F w (aC ms ws j w s) (V j w s):=by
 have os:=(wW (ms:=ms) (j:=j) (w:=w) hs).lt hs;by_cases e:j=ms.length
 ·subst e;refine ⟨none,(λG z=>nomatch z),λ_=>rfl,?_⟩;have:=D.last w hw s hs;rw [this.2];exact (D.last w hw _ os).1 (l6 hs)
 ·refine ⟨some (V (j + 1)),λG z=>⟨by omega,by cases z;rfl⟩,(λz=>nomatch z),?_⟩;have:=D.prev j (by omega) w hw s hs;rw [this.2];exact (D.prev j (by omega) w hw _ os).1 (l6 hs)
theorem dh.nonneg (D:dh ms V W ws)(gd:Good W ms):∀ d j,j + d=ms.length->∀ w < W,∀ s < 2 ^ ws.length,0<=V j w s:=by
 intro d;induction d with
 | zero=>
  intro j e w hw s hs;obtain ⟨F,hF,hN,l⟩:=D.row (j:=j) (by omega) hw hs;rcases l with ⟨_,l⟩ | ⟨_,l⟩
  ·omega
  ·cases F with
   | none=>simp only at l;omega
   | some G=>have:=(hF G rfl).1;omega
 | succ d ih=>
  intro j e w hw s hs;obtain ⟨F,hF,hN,l⟩:=D.row (j:=j) (by omega) hw hs;have os:=(wW (ms:=ms) (j:=j) (w:=w) hs).lt hs;rcases l with ⟨_,l⟩ | ⟨_,l⟩
  ·omega
  ·cases F with
   | none=>simp only at l;omega
   | some G=>
    obtain ⟨_,rfl⟩:=hF G rfl;have n1:=ih (j + 1) (by omega) w hw _ os;rcases l with ⟨_,l⟩ | ⟨o,t,k,_,_,l | ⟨p,sp,l⟩⟩
    ·omega
    ·omega
    ·have n2:=ih (j + 1) (by omega) w hw p (sp.lt os);have n3:=ih (j + 1) (by omega) o (k.inside gd).2.1 _ (z4 (Nat.sub_le _ p) os);omega
theorem dh.mono (D:dh ms V W ws)(gd:Good W ms):∀ d j,j + d=ms.length->∀ w < W,∀ s t,t < 2 ^ ws.length->bA s t->V j w s<=V j w t:=by
 intro d;induction d with
 | zero=>
  intro j e w hw s t ht st;have hs:=st.lt ht;obtain ⟨F,hF,hN,l⟩:=D.row (j:=j) (by omega) hw hs;obtain ⟨F',XX,ZI,l'⟩:=D.row (j:=j) (by omega) hw ht;have so:=l8 (ms:=ms) (j:=j) (w:=w) ht st;have nn:=D.nonneg gd 0 j e w hw t ht;rcases l with ⟨_,l⟩ | ⟨n0,l⟩
  ·omega
  ·rcases l' with ⟨z,_⟩ | ⟨_,l'⟩
   ·rw [z] at so;exact absurd (Nat.le_zero.mp so.le) n0
   ·cases F with
    | some G=>have:=(hF G rfl).1;omega
    | none=>cases F' with
     | some G=>have:=(XX G rfl).1;omega
     | none=>simp only at l l';omega
 | succ d ih=>
  intro j e w hw s t ht st;have hs:=st.lt ht;obtain ⟨F,hF,hN,l⟩:=D.row (j:=j) (by omega) hw hs;obtain ⟨F',XX,ZI,l'⟩:=D.row (j:=j) (by omega) hw ht;have so:=l8 (ms:=ms) (j:=j) (w:=w) ht st;have nn:=D.nonneg gd (d + 1) j e w hw t ht;have os:=(wW (ms:=ms) (j:=j) (w:=w) hs).lt hs;have ot:=(wW (ms:=ms) (j:=j) (w:=w) ht).lt ht;have up:=ih (j + 1) (by omega);rcases l with ⟨_,l⟩ | ⟨n0,l⟩
  ·omega
  ·rcases l' with ⟨z,_⟩ | ⟨_,l'⟩
   ·rw [z] at so;exact absurd (Nat.le_zero.mp so.le) n0
   ·cases F with
    | none=>have:=hN rfl;omega
    | some G=>cases F' with
     | none=>have:=ZI rfl;omega
     | some G'=>
      obtain ⟨_,rfl⟩:=hF G rfl;obtain ⟨_,rfl⟩:=XX G' rfl;have u1:=up w hw _ _ ot so;rcases l with ⟨nl,l⟩ | ⟨o,tt,k,l1,l2,_⟩
      ·rcases l' with ⟨_,l'⟩ | ⟨o,tt,k,_⟩
       ·omega
       ·exact absurd k (nl o tt)
      ·rcases l' with ⟨nl,_⟩ | ⟨o',tt',k',_,_,l' | ⟨p,sp,l'⟩⟩
       ·exact absurd k (nl o tt)
       ·omega
       ·obtain ⟨rfl,rfl⟩:=jk gd k k';have pi:bA (p &&& aC ms ws j w s) (aC ms ws j w s):=λi hi=>by rw [yE,zb] at hi;exact hi.2
        have pp:bA (p &&& aC ms ws j w s) p:=λi hi=>by rw [yE,zb] at hi;exact hi.1
        have rr:bA (aC ms ws j w s - (p &&& aC ms ws j w s)) (aC ms ws j w t - p):=λi hi=>by
         rw [(gH pi).2.2,yE] at hi;rw [(gH sp).2.2];cases a1:(aC ms ws j w s).testBit i with
         | false=>rw [a1] at hi;cases hi
         | true=>
          rw [a1] at hi;rw [so i a1];cases a2:p.testBit i with
          | false=>rfl
          | true=>rw [a2] at hi;cases hi
        have v1:=l2 _ pi;have v2:=up w hw _ _ (sp.lt ot) pp;have v3:=up o (k.inside gd).2.1 _ _ (z4 (Nat.sub_le _ p) ot) rr;omega
theorem dh.eq (D:dh ms V W ws){j w s:Nat}(hj:j<=ms.length)(hw:w < W)(hs:s < 2 ^ ws.length):V j w s=V j w (aC ms ws j w s):=by
 by_cases e:j=ms.length
 ·subst e;exact (D.last w hw s hs).2
 ·exact (D.prev j (by omega) w hw s hs).2
theorem dh.LX (D:dh ms V W ws)(gd:Good W ms)(LD:∀ x∈ws,x.1 < W):dP ms V W ws.length ws:=by
 have nn:∀ {j w s},j<=ms.length->w < W->s < 2 ^ ws.length->0<=V j w s:=λ{j w s} hj hw hs=>D.nonneg gd (ms.length - j) j (by omega) w hw s hs;have mo:∀ {j w s t},j<=ms.length->w < W->t < 2 ^ ws.length->bA s t->V j w s<=V j w t:=λ{j w s t} hj hw ht st=>D.mono gd (ms.length - j) j (by omega) w hw s t ht st;refine ⟨λj hj w hw=>?_,λk x hx j hj s hs hb=>?_,λj hj w hw s hs=>?_,λj g o t k a b d lt=>?_⟩
 ·have z:aC ms ws j w 0=0:=kJ λi=>by rw [qA (yM _),z8];rfl
  obtain ⟨F,_,_,l⟩:=D.row hj hw (yM ws.length);rw [z] at l;rcases l with ⟨_,l⟩ | ⟨n0,_⟩
  ·exact l
  ·exact absurd rfl n0
 ·have hw:=LD x (zB hx);have kh:j<=ms.length:=zz hj (cZ _ _);have p2:bA (2 ^ k) s:=λi hi=>by
   rw [zq] at hi;rw [<-of_decide_eq_true hi];exact hb
  rw [D.eq kh hw hs,D.eq kh hw (s:=s - 2 ^ k) (z4 (Nat.sub_le _ _) hs)];refine Int.le_of_eq (congrArg _ (zy λi=>?_));rw [qA hs,qA (z4 (Nat.sub_le _ _) hs),(gH p2).2.2,zq];by_cases e:k=i
  ·subst e;have:dz ms ws j x.1 k=true:=by
    unfold dz;rw [hx];simp only [decide_true,xG];exact decide_eq_true hj
   rw [this];simp
  ·simp [e]
 ·obtain ⟨F,hF,hN,l⟩:=D.row (j:=j) (by omega) hw hs;have os:=wW (ms:=ms) (j:=j) (w:=w) hs;rcases l with ⟨_,l⟩ | ⟨_,l⟩
  ·rw [l];exact nn hj hw hs
  ·cases F with
   | none=>have:=hN rfl;omega
   | some G=>
    obtain ⟨_,rfl⟩:=hF G rfl;have u:=mo (j:=j + 1) hj hw hs os;rcases l with ⟨_,l⟩ | ⟨_,_,_,l,_⟩ <;> omega
 ·obtain ⟨gW,oW,_⟩:=k.inside gd;have jn:j < ms.length:=by obtain ⟨m',hm,_⟩:=k;exact (zC.mp hm).1
  obtain ⟨F,hF,hN,l⟩:=D.row (j:=j) (by omega) gW lt;have al:a < 2 ^ ws.length:=z4 Nat.left_le_or lt;have bl:b < 2 ^ ws.length:=z4 Nat.right_le_or lt;have os:=wW (ms:=ms) (j:=j) (w:=g) lt;have n1:=nn (j:=j + 1) (by omega) gW al;have n2:=nn (j:=j + 1) (by omega) oW bl;rcases l with ⟨_,l⟩ | ⟨_,l⟩
  ·omega
  ·cases F with
   | none=>have:=hN rfl;omega
   | some G=>
    obtain ⟨_,rfl⟩:=hF G rfl;rcases l with ⟨nl,_⟩ | ⟨o',t',k',_,l,_⟩
    ·exact absurd k (nl o t)
    ·obtain ⟨rfl,rfl⟩:=jk gd k k';have pi:bA (a &&& aC ms ws j g (a ||| b)) (aC ms ws j g (a ||| b)):=λi hi=>by rw [yE,zb] at hi;exact hi.2
     have pp:bA (a &&& aC ms ws j g (a ||| b)) a:=λi hi=>by rw [yE,zb] at hi;exact hi.1
     have rr:bA (aC ms ws j g (a ||| b) - (a &&& aC ms ws j g (a ||| b))) b:=λi hi=>by
      rw [(gH pi).2.2,yE] at hi;cases a1:(aC ms ws j g (a ||| b)).testBit i with
      | false=>rw [a1] at hi;cases hi
      | true=>
       have:=os i a1;rw [a1] at hi;rw [zo] at this;cases a2:a.testBit i with
       | false=>rw [a2] at this;exact this
       | true=>rw [a2] at hi;cases hi
     have v1:=l _ pi;have v2:=mo (j:=j + 1) (by omega) gW al pp;have v3:=mo (j:=j + 1) (by omega) oW bl rr;omega
end
inductive bQ (ms:List M4) (v j0:Nat) (G:List (Nat×Nat)):Nat->Nat->Prop
 | root:bQ ms v j0 G j0 v
 | keep {j w:Nat}:bQ ms v j0 G j w->bQ ms v j0 G (j + 1) w
 | give {j g o:Nat}{t:Int}:bQ ms v j0 G j g->(j,g)∈G->cK ms j g o t->bQ ms v j0 G (j + 1) o
theorem bQ.ge {ms:List M4}{v j0 j w:Nat}{G:List (Nat×Nat)}(h:bQ ms v j0 G j w):j0<=j:=by
 induction h with
 | root=>exact zE _
 | keep _ ih=>omega
 | give _ _ _ ih=>omega
theorem bQ.mono {ms:List M4}{v j0 j w:Nat}{G G':List (Nat×Nat)}(s:∀ x∈G,x∈G')(h:bQ ms v j0 G j w):bQ ms v j0 G' j w:=by
 induction h with
 | root=>exact .root
 | keep _ ih=>exact .keep ih
 | give _ m l ih=>exact .give ih (s _ m) l
theorem bQ.inv {ms:List M4}{v j0 j w:Nat}{G:List (Nat×Nat)}(h:bQ ms v j0 G (j + 1) w)(ge:j0<=j):bQ ms v j0 G j w\/∃ g t,bQ ms v j0 G j g/\(j,g)∈G/\cK ms j g w t:=by
 generalize e:j + 1=i at h;cases h with
 | root=>omega
 | keep k=>obtain rfl:=Nat.succ.inj e;exact .inl k
 | give k m l=>obtain rfl:=Nat.succ.inj e;exact .inr ⟨_,_,k,m,l⟩
def cQ (ms:List M4)(v:Nat)(a:Int)(i w:Nat)(x:Int):Prop:=(x=a/\w=v)\/∃ m o,m < i/\cK ms m o w x
theorem cQ.mono {ms:List M4}{v:Nat}{a:Int}{i k w:Nat}{x:Int}(h:cQ ms v a i w x)(le:i<=k):cQ ms v a k w x:=by
 rcases h with h | ⟨m,o,l,k⟩
 ·exact .inl h
 ·exact .inr ⟨m,o,by omega,k⟩
theorem vm {W:Nat}{ms:List M4}(gd:Good W ms){m m' w o o':Nat}{x t:Int}(h:cK ms m o w x)(h':cK ms m' w o' t)(lt:m < m'):x < t:=by
 obtain ⟨r,hr,e,c⟩:=h;obtain ⟨r',qz,e',c'⟩:=h';have f:=gd.each r (zB hr);have f':=gd.each r' (zB qz);have od:=yU.mp gd.order m m' (zC.mp hr).1 (zC.mp qz).1 lt;rw [(zC.mp hr).2,(zC.mp qz).2] at od;rcases od with od | ⟨_,_,ap⟩
 ·omega
 ·unfold apart at ap;rcases c with ⟨a1,a2⟩ | ⟨a1,a2⟩ <;> rcases c' with ⟨b1,b2⟩ | ⟨b1,b2⟩ <;> omega
theorem cQ.lt {W:Nat}{ms:List M4}(gd:Good W ms){v:Nat}{a:Int}{m w o:Nat}{x t:Int}(h:cQ ms v a m w x)(ge:cnt ms a<=m)(k:cK ms m w o t):x < t:=by
 rcases h with ⟨rfl,_⟩ | ⟨m',o',l,k'⟩
 ·obtain ⟨r,hr,e,_⟩:=k;have:=gP gd.jT hr (t:=x);rw [e] at this;omega
 ·exact vm gd k' k l
theorem lK.lower {ms:List M4}{j:Nat}{f h:Fn}{T:List (Nat×Nat)}(tr:lK ms (j + 1) f T h):lK ms j f T h:=by
 cases tr with
 | nil=>exact .nil j f
 | cons hj l hx lt r=>exact .cons (by omega) l hx lt r
theorem Px {W:Nat}{ms:List M4}(gd:Good W ms){v:Nat}{a:Int}{G:List (Nat×Nat)}:∀ d j (f:Fn),j + d=ms.length->cnt ms a<=j->(∀ w,bQ ms v (cnt ms a) G j w->∃ x,f w=some x/\cQ ms v a j w x)->(∀ w x,f w=some x->cQ ms v a j w x) ->
  ∃ T h,lK ms j f T h/\(∀ x∈T,x∈G)/\(∀ x∈T,j<=x.1)/\(T.Pairwise λx y=>x.1 < y.1)/\(∀ w x,f w=some x->h w=some x)/\(∀ i w,j<=i->i<=ms.length->bQ ms v (cnt ms a) G i w->∃ x,h w=some x/\cQ ms v a i w x):=by
 intro d;induction d with
 | zero=>
  intro j f e ge hf hE;refine ⟨[],f,.nil j f,(λ_ z=>nomatch z),(λ_ z=>nomatch z),.nil,λ_ _ h=>h,λi w h1 h2 k=>?_⟩;obtain rfl:i=j:=by omega
  exact hf w k
 | succ d ih=>
  intro j f e ge hf hE;obtain ⟨r,hr⟩:∃ r,ms[j]?=some r:=⟨_,zF (by omega)⟩;have fr:=gd.each r (zB hr)
  -- Ra three aaf of this Uu
  by_cases gv:∃ g o t,cK ms j g o t/\f g≠none/\f o=none/\(j,g)∈G
  ·obtain ⟨g,o,t,l,fg,fo,mG⟩:=gv;obtain ⟨x,hx⟩:∃ x,f g=some x:=Option.ne_none_iff_exists'.mp fg;have lt:=(hE g x hx).lt gd ge l;have inv:∀ w x,(put f o (some t)) w=some x->cQ ms v a (j + 1) w x:=λw x h=>by
    by_cases e:w=o
    ·subst e;rw [cC] at h;cases h;exact .inr ⟨j,g,Nat.lt_succ_self _,l⟩
    ·rw [wz e] at h;exact (hE w x h).mono (yC _)
   obtain ⟨T,h,tr,tG,tj,tp,keep,all⟩:=ih (j + 1) (put f o (some t)) (by omega) (by omega) (λw k=>by
    rcases k.inv ge with k | ⟨g',t',k,m,l'⟩
    ·obtain ⟨x,hx,ex⟩:=hf w k;exact ⟨x,by rw [wz λe=>by rw [e,fo] at hx;cases hx];exact hx,ex.mono (yC _)⟩
    ·obtain ⟨x',Zg,_⟩:=hf g' k;by_cases e:w=o
     ·subst e;exact ⟨t,cC,.inr ⟨j,g,Nat.lt_succ_self _,l⟩⟩
     ·-- then w is Ra ZU itself
      have:w=g:=by
       obtain ⟨m1,h1,_,c1⟩:=l;obtain ⟨m2,h2,_,c2⟩:=l';rw [h1] at h2;cases h2;rcases c1 with ⟨p1,p2⟩ | ⟨p1,p2⟩ <;> rcases c2 with ⟨q1,q2⟩ | ⟨q1,q2⟩ <;> omega
      subst this;exact ⟨x,by rw [wz e];exact hx,(hE w x hx).mono (yC _)⟩) inv
   refine ⟨(j,g)::T,h,.cons (zE _) l hx lt (by rw [if_pos fo];exact tr),?_,?_,?_,λw y hy=>keep w y (by rw [wz λe=>by rw [e,fo] at hy;cases hy];exact hy),λi w h1 h2 k=>?_⟩
   ·intro y hy;rcases zK.mp hy with e | e
    ·rw [e];exact mG
    ·exact tG y e
   ·intro y hy;rcases zK.mp hy with e | e
    ·rw [e];exact zE _
    ·exact Nat.le_of_succ_le (tj y e)
   ·exact .cons (λy hy=>tj y hy) tp
   ·by_cases e:i=j
    ·subst e;obtain ⟨x,hx,ex⟩:=hf w k;exact ⟨x,keep w x (by rw [wz λe=>by rw [e,fo] at hx;cases hx];exact hx),ex⟩
    ·exact all i w (by omega) h2 k
  ·obtain ⟨T,h,tr,tG,tj,tp,keep,all⟩:=ih (j + 1) f (by omega) (by omega) (λw k=>by
    rcases k.inv ge with k | ⟨g',t',k,m,l'⟩
    ·obtain ⟨x,hx,ex⟩:=hf w k;exact ⟨x,hx,ex.mono (yC _)⟩
    ·obtain ⟨x',Zg,_⟩:=hf g' k;cases fw:f w with
     | some x=>exact ⟨x,rfl,(hE w x fw).mono (yC _)⟩
     | none=>exact absurd ⟨g',w,t',l',by rw [Zg];exact (λz=>nomatch z),fw,m⟩ gv) (λw x h=>(hE w x h).mono (yC _))
   refine ⟨T,h,tr.lower,tG,λy hy=>Nat.le_of_succ_le (tj y hy),tp,keep,λi w h1 h2 k=>?_⟩;by_cases e:i=j
   ·subst e;obtain ⟨x,hx,ex⟩:=hf w k;exact ⟨x,keep w x hx,ex⟩
   ·exact all i w (by omega) h2 k
theorem N8 {W:Nat}{ms:List M4}(gd:Good W ms):∀ d j (f:Fn),j + d=ms.length->∃ T,lK ms j f T (fwd (ms.drop j) f)/\T.length<=d:=by
 intro d;induction d with
 | zero=>
  intro j f e;rw [List.drop_eq_nil_of_le (by omega)];exact ⟨[],.nil j f,zE _⟩
 | succ d ih=>
  intro j f e;obtain ⟨m,hm⟩:∃ m,ms[j]?=some m:=⟨_,zF (by omega)⟩;have ed:ms.drop j=m::ms.drop (j + 1):=by
   rw [List.drop_eq_getElem_cons (by omega)];rw [(zC.mp hm).2]
  rw [ed,LS];have l1:cK ms j m.lo.toNat m.hi.toNat m.t:=⟨m,hm,rfl,.inl ⟨rfl,rfl⟩⟩;have l2:cK ms j m.hi.toNat m.lo.toNat m.t:=⟨m,hm,rfl,.inr ⟨rfl,rfl⟩⟩;have ne:=(l1.inside gd).2.2;by_cases c1:f m.hi.toNat=none/\below (f m.lo.toNat) m.t=true
  ·obtain ⟨y,hy,lt⟩:=aK.mp c1.2;have e1:aJ f ⟨m.lo.toNat,m.hi.toNat,m.t⟩=put f m.hi.toNat (some m.t):=if_pos c1;have e2:aJ (put f m.hi.toNat (some m.t)) ⟨m.hi.toNat,m.lo.toNat,m.t⟩=put f m.hi.toNat (some m.t):=if_neg λz=>by
    have:=z.1;simp only at this;rw [wz ne,hy] at this;cases this
   rw [e1,e2];obtain ⟨T,tr,le⟩:=ih (j + 1) (put f m.hi.toNat (some m.t)) (by omega);exact ⟨(j,m.lo.toNat)::T,.cons (zE _) l1 hy lt (by rw [if_pos c1.1];exact tr),xC le⟩
  ·have e1:aJ f ⟨m.lo.toNat,m.hi.toNat,m.t⟩=f:=if_neg c1;rw [e1];by_cases c2:f m.lo.toNat=none/\below (f m.hi.toNat) m.t=true
   ·obtain ⟨y,hy,lt⟩:=aK.mp c2.2;have e2:aJ f ⟨m.hi.toNat,m.lo.toNat,m.t⟩=put f m.lo.toNat (some m.t):=if_pos c2;rw [e2];obtain ⟨T,tr,le⟩:=ih (j + 1) (put f m.lo.toNat (some m.t)) (by omega);exact ⟨(j,m.hi.toNat)::T,.cons (zE _) l2 hy lt (by rw [if_pos c2.1];exact tr),xC le⟩
   ·have e2:aJ f ⟨m.hi.toNat,m.lo.toNat,m.t⟩=f:=if_neg c2;rw [e2];obtain ⟨T,tr,le⟩:=ih (j + 1) f (by omega);exact ⟨T,tr.lower,by omega⟩
theorem lK.since {W:Nat}{ms:List M4}(gd:Good W ms){v:Nat}{a:Int}{h:Fn}{T:List (Nat×Nat)}(tr:lK ms 0 (aE v a) T h):lK ms (cnt ms a) (aE v a) T h:=by
 generalize ef:aE v a=f at tr ⊢;cases tr with
 | nil=>exact .nil _ _
 | @cons _ m g o t x _ _ T hj l hx lt r=>
  refine .cons ?_ l hx lt r;rw [<-ef] at hx;unfold aE at hx;split at hx
  ·cases hx;obtain ⟨m',hm,e,_⟩:=l;have:=gP gd.jT hm (t:=a);rw [e] at this;omega
  ·cases hx
theorem m8 {ms:List M4}{V:Nat->Nat->Nat->Int}{W:Nat}{ws:Wq}(F:dP ms V W ws.length ws)(gd:Good W ms){v:Nat}{a:Int}(hv:v < W)(sv:bR (fwd ms (aE v a)) ws):V (cnt ms a) v (2 ^ ws.length - 1)<=ms.length:=by obtain ⟨T,tr,le⟩:=N8 gd ms.length 0 (aE v a) (by omega);rw [List.drop_zero] at tr;have:=KZ F gd rfl hv (tr.since gd) sv;omega
theorem K8 {α:Type}[DecidableEq α]:∀ {T G:List α},T.Nodup->(∀ x∈T,x∈G)->G.length<=T.length->T.Perm G
 | [],G,_,_,l=>by
  have:G=[]:=List.eq_nil_of_length_eq_zero (Nat.le_zero.mp l);rw [this]
 | x::T,G,nd,s,l=>by
  rw [yg] at nd;have mx:=s x (.head _);have le:=List.length_erase_of_mem mx;have pos:0 < G.length:=List.length_pos_of_mem mx;refine ((K8 (T:=T) (G:=G.erase x) nd.2 (λy hy=>?_) (by rw [ze] at l;omega)).cons x).trans (List.perm_cons_erase mx).symm;exact (List.mem_erase_of_ne λe=>nd.1 (by rw [<-e];exact hy)).mpr (s y (.tail _ hy))
theorem O6 {ms:List M4}{V:Nat->Nat->Nat->Int}{W:Nat}{ws:Wq}(F:dP ms V W ws.length ws)(gd:Good W ms){v:Nat}{a:Int}(hv:v < W){G:List (Nat×Nat)}(eG:(G.length:Int)=V (cnt ms a) v (2 ^ ws.length - 1))(sG:∀ (k:Nat) (x:Nat×Int),ws[k]?=some x->∃ j,j<=cnt ms x.2/\bQ ms v (cnt ms a) G j x.1)(own:∀ x∈ws,x.1=v->a<=x.2) :
  ∃ T h,lK ms (cnt ms a) (aE v a) T h/\bR h ws/\(T.length:Int)=V (cnt ms a) v (2 ^ ws.length - 1)/\T.Perm G/\T.Pairwise λx y=>x.1 < y.1:=by
 have cl:=cZ ms a;obtain ⟨T,h,tr,tG,_,tp,_,all⟩:=Px gd (v:=v) (a:=a) (G:=G) (ms.length - cnt ms a) (cnt ms a) (aE v a) (by omega) (zE _) (λw k=>by
  have:w=v:=by
   generalize e:cnt ms a=i at k;have k':=k;cases k with
   | root=>rfl
   | keep q=>have:=q.ge;omega
   | give q=>have:=q.ge;omega
  subst this;exact ⟨a,if_pos rfl,.inl ⟨rfl,rfl⟩⟩) (λw x hx=>by
   unfold aE at hx;split at hx
   ·rename_i e;cases hx;exact .inl ⟨rfl,e⟩
   ·cases hx)
 have sv:bR h ws:=λk x hx=>by
  obtain ⟨j,hj,hh⟩:=sG k x hx;obtain ⟨y,hy,ey⟩:=all j x.1 hh.ge (zz hj (cZ _ _)) hh;rw [hy];refine bJ.mpr ⟨y,rfl,?_⟩;rcases ey with ⟨rfl,e⟩ | ⟨m,o,lt,l⟩
  ·exact own x (zB hx) e
  ·obtain ⟨m',hm,e,_⟩:=l;have:=(gP gd.jT hm (t:=x.2)).mp (by omega);omega
 have nd:T.Nodup:=tp.imp λl e=>by rw [e] at l;exact absurd l (yK _)
 have lo:=KZ F gd rfl hv tr sv;have pm:=K8 nd tG (by omega);exact ⟨T,h,tr,sv,by rw [pm.length_eq];exact eG,pm,tp⟩
abbrev eZ:=Nat×Nat×Nat
structure bG (ms:List M4) (V:Nat->Nat->Nat->Int) (W:Nat) (ws:Wq) (v:Nat) (a:Int) (G:List (Nat×Nat)) (ps:List eZ):Prop where
 p:∀ x∈ps,x.1<=ms.length/\x.2.1 < W/\x.2.2 < 2 ^ ws.length/\bQ ms v (cnt ms a) G x.1 x.2.1
 g:∀ x∈G,x.1 < ms.length/\x.2 < W
 c:(G.length:Int) + (ps.map λx=>V x.1 x.2.1 x.2.2).sum=V (cnt ms a) v (2 ^ ws.length - 1)
 s:∀ (k:Nat) (x:Nat×Int),ws[k]?=some x->(∃ y∈ps,y.2.2.testBit k=true)\/∃ j,j<=cnt ms x.2/\bQ ms v (cnt ms a) G j x.1
def fE (n:Nat)(ps:List eZ):Nat:=(ps.map λx=>3 ^ (n - x.1)).sum
theorem iy (n:Nat)(ps:List eZ)(x:eZ):fE n (ps++[x])=fE n ps + 3 ^ (n - x.1):=by unfold fE;rw [zG,yu];simp
section
variable {ms:List M4}{V:Nat->Nat->Nat->Int}{W:Nat}{ws:Wq}{v:Nat}{a:Int}{G:List (Nat×Nat)}{ps:List eZ}{j w s:Nat}
theorem bG.start (hv:v < W):bG ms V W ws v a [] [(cnt ms a,v,2 ^ ws.length - 1)]:=by
 refine ⟨λx hx=>?_,(λ_ z=>nomatch z),?_,λk x hx=>.inl ⟨_,.head _,?_⟩⟩
 ·cases zP.mp hx;have:=yM ws.length;exact ⟨cZ _ _,hv,by show _ - 1 < _;omega,.root⟩
 ·simp
 ·show (2 ^ ws.length - 1).testBit k=true;rw [Nat.testBit_two_pow_sub_one];exact decide_eq_true (zC.mp hx).1
theorem bG.jh (D:dh ms V W ws)(gd:Good W ms)(e:bG ms V W ws v a G (ps++[(j,w,s)])):0<=(ps.map λx=>V x.1 x.2.1 x.2.2).sum:=by
 have:∀ qs:List eZ,(∀ x∈qs,x.1<=ms.length/\x.2.1 < W/\x.2.2 < 2 ^ ws.length)->0<=(qs.map λx=>V x.1 x.2.1 x.2.2).sum:=λqs=>by
  induction qs with
  | nil=>intro _;exact zx _
  | cons x qs ih=>
   intro h;obtain ⟨h1,h2,h3⟩:=h x (.head _);have:=D.nonneg gd (ms.length - x.1) x.1 (by omega) x.2.1 h2 x.2.2 h3;have:=ih λy hy=>h y (.tail _ hy);rw [zf,List.sum_cons];omega
 exact this ps λx hx=>by
  have:=e.p x (zX _ hx);exact ⟨this.1,this.2.1,this.2.2.1⟩
theorem bG.last (e:bG ms V W ws v a G (ps++[(j,w,s)])):j<=ms.length/\w < W/\s < 2 ^ ws.length/\bQ ms v (cnt ms a) G j w:=e.p (j,w,s) (zJ _ (.head _))
theorem bG.sum (e:bG ms V W ws v a G (ps++[(j,w,s)])):(G.length:Int) + (ps.map λx=>V x.1 x.2.1 x.2.2).sum + V j w s=V (cnt ms a) v (2 ^ ws.length - 1):=by have:=e.c;rw [zG,yu] at this;simp only [zf,yX,List.sum_cons,List.sum_nil] at this;omega
theorem bG.bits (e:bG ms V W ws v a G (ps++[(j,w,s)]))(k:Nat)(x:Nat×Int)(hx:ws[k]?=some x):(∃ y∈ps,y.2.2.testBit k=true)\/(aC ms ws j w s).testBit k=true\/∃ j,j<=cnt ms x.2/\bQ ms v (cnt ms a) G j x.1:=by
 rcases e.s k x hx with ⟨y,hy,b⟩ | h
 ·rcases zT.mp hy with m | m
  ·exact .inl ⟨y,m,b⟩
  ·cases zP.mp m;rw [qA e.last.2.2.1];cases d:dz ms ws j w k with
   | false=>right;left;simp only at b;rw [b];rfl
   | true=>
    right;right;unfold dz at d;rw [hx] at d;simp only [zb,decide_eq_true_eq] at d;exact ⟨j,d.2,by rw [d.1];exact e.last.2.2.2⟩
 ·exact .inr (.inr h)
theorem bG.drop (D:dh ms V W ws)(F:dP ms V W ws.length ws)(e:bG ms V W ws v a G (ps++[(j,w,s)]))(z:aC ms ws j w s=0):bG ms V W ws v a G ps:=by
 obtain ⟨l1,l2,l3,l4⟩:=e.last;have es:=e.sum;rw [D.eq l1 l2 l3,z,F.zero j l1 w l2] at es;refine ⟨λx hx=>e.p x (zX _ hx),e.g,by omega,λk x hx=>?_⟩;rcases e.bits k x hx with h | h | h
 ·exact .inl h
 ·rw [z,z8] at h;cases h
 ·exact .inr h
theorem bG.go (D:dh ms V W ws)(e:bG ms V W ws v a G (ps++[(j,w,s)]))(lt:j < ms.length)(z:V j w (aC ms ws j w s)=V (j + 1) w (aC ms ws j w s)):bG ms V W ws v a G (ps++[(j + 1,w,aC ms ws j w s)]):=by
 obtain ⟨l1,l2,l3,l4⟩:=e.last;have es:=e.sum;rw [D.eq l1 l2 l3,z] at es;have os:=(wW (ms:=ms) (j:=j) (w:=w) l3).lt l3;refine ⟨λx hx=>?_,e.g,?_,λk x hx=>?_⟩
 ·rcases zT.mp hx with m | m
  ·exact e.p x (zX _ m)
  ·cases zP.mp m;exact ⟨lt,l2,os,.keep l4⟩
 ·rw [zG,yu];simp only [zf,yX,List.sum_cons,List.sum_nil];omega
 ·rcases e.bits k x hx with ⟨y,hy,h⟩ | h | h
  ·exact .inl ⟨y,zX _ hy,h⟩
  ·exact .inl ⟨_,zJ _ (.head _),h⟩
  ·exact .inr h
theorem bG.give (D:dh ms V W ws)(gd:Good W ms)(e:bG ms V W ws v a G (ps++[(j,w,s)])){o p:Nat}{t:Int}(l:cK ms j w o t)(sp:bA p (aC ms ws j w s))(z:V j w (aC ms ws j w s)=1 + V (j + 1) w p + V (j + 1) o (aC ms ws j w s - p)):bG ms V W ws v a (G++[(j,w)]) (ps++[(j + 1,w,p)]++[(j + 1,o,aC ms ws j w s - p)]):=by
 obtain ⟨l1,l2,l3,l4⟩:=e.last;have es:=e.sum;rw [D.eq l1 l2 l3,z] at es;have lt:j < ms.length:=by obtain ⟨m',hm,_⟩:=l;exact (zC.mp hm).1
 have os:=(wW (ms:=ms) (j:=j) (w:=w) l3).lt l3;have up:∀ x∈G,x∈G++[(j,w)]:=λx hx=>zX _ hx;have hj:=l4.mono up;refine ⟨λx hx=>?_,λx hx=>?_,?_,λk x hx=>?_⟩
 ·rcases zT.mp hx with m | m
  ·rcases zT.mp m with m | m
   ·have:=e.p x (zX _ m);exact ⟨this.1,this.2.1,this.2.2.1,this.2.2.2.mono up⟩
   ·cases zP.mp m;exact ⟨lt,l2,sp.lt os,.keep hj⟩
  ·cases zP.mp m;exact ⟨lt,(l.inside gd).2.1,z4 (Nat.sub_le _ _) os,.give hj (zJ _ (.head _)) l⟩
 ·rcases zT.mp hx with m | m
  ·exact e.g x m
  ·cases zP.mp m;exact ⟨lt,l2⟩
 ·rw [zG,zG,yu,yu,zN];simp only [zf,yX,List.sum_cons,List.sum_nil,ze,yL]
  push_cast
  omega
 ·rcases e.bits k x hx with ⟨y,hy,h⟩ | h | ⟨i,h1,h2⟩
  ·exact .inl ⟨y,zX _ (zX _ hy),h⟩
  ·cases b:p.testBit k with
   | true=>exact .inl ⟨_,zX _ (zJ _ (.head _)),b⟩
   | false=>
    refine .inl ⟨_,zJ _ (.head _),?_⟩;show (aC ms ws j w s - p).testBit k=true;rw [(gH sp).2.2,h,b];rfl
  ·exact .inr ⟨i,h1,h2.mono up⟩
theorem bG.ND (D:dh ms V W ws)(gd:Good W ms)(e:bG ms V W ws v a G (ps++[(j,w,s)]))(C:V (cnt ms a) v (2 ^ ws.length - 1)<=ms.length)(z:aC ms ws j w s≠0):j < ms.length:=by
 obtain ⟨l1,l2,l3,l4⟩:=e.last;have es:=e.sum;have nn:=e.jh D gd;by_cases q:j=ms.length
 ·exfalso;obtain ⟨F,hF,_,l⟩:=D.row l1 l2 l3;rcases l with ⟨z',_⟩ | ⟨_,l⟩
  ·exact z z'
  ·cases F with
   | some H=>have:=(hF H rfl).1;omega
   | none=>simp only at l;omega
 ·omega
end
end Sm
namespace L2
open PySem PySem.Spec PyProof.Rows PySem.W aR
section
variable {X:Cx}{af:List (Addr×Obj)}{σ:St} {H0:Hp}{A:Around}{R:Result->Shared->Prop}{l S Ia:Addr}{fa:Addr}{ps:List (Addr×List Int)}{kf:List Int->Int}
theorem jf.to {H H':Hp}{b:Addr}(h:jf X af H b)(n:H' b=none):jf X af H' b:=⟨n,h.2⟩
theorem vf (hh:A.in1.handled=none)(hl:H0 l=some (.lst (ps.map λa=>V.ref a.1)))(QA:S≠Ia)(hz:ps.length<=sizeLine)
  (turn:∀ (eO:List (Addr×Obj)) (a:Addr) (r:List Int) (s':Shared) (H':Hp),(∀ p∈af,p∈eO)->(a,r)∈ps->Inv X eO σ H' s'->(∀ b u,H0 b=some u->H' b=some u) ->
   wpAny (model X.prog X.w) A.in1 (call (.ref fa) [.ref a]) (EP X eO σ λv Q7=>v=.int (kf r)/\au H' Q7) (λ_ _=>False) s')
  (q:∀ a s' H',a∈ps->(∀ b∈ps,kf a.2<=kf b.2)->Inv X af σ H' s'->(∀ b u,H0 b=some u->H' b=some u)->R (.ok (.ret (.ref a.1))) s') :
  ∀ (r j i:Nat) (s:Shared) (H:Hp) (a:Addr×List Int) (tb:Tok) (c:Nat),ps.length - (j + 1)=r->j + 1<=ps.length->Inv X af σ H s->(∀ b u,H0 b=some u->H b=some u)->jf X af H S->jf X af H Ia ->
   s.heap.get? S=some (seqObj "list" #[.ref a.1,.int (kf a.2) tb] c)->s.heap.IsListIter Ia l (j + 1)->ps[i]?=some a->i<=j->(∀ j' b,j'<=j->ps[j']?=some b->kf a.2<=kf b.2) ->
   codeAny (model X.prog X.w) A (.builtin "min.loop" ⟨[.ref Ia,.ref fa,.ref S],[]⟩) R s:=by
 have pY:(toString "min" ++ toString ".loop" : String) = "min.loop" := by decide
 intro r;induction r with
 | zero=>
  intro j i s H a tb c hr hj I ext fS fI hS hit ha pZ best;have Zr:j + 1=ps.length:=by omega
  obtain ⟨ay,rv,p,_⟩:=I.list (aG.of (ext _ _ hl));have li:=rv.length;rw [zA] at li;refine codeAny_builtin PySem.F.entry_min_loop ?_;rw [Around.under_plainId yG _];show wpAny _ A.in1 (seqItems? (.ref S) >>= _) _ _ _;refine wpAny_bind (wpAny_seqItems hS rfl ?_);show wpAny _ A.in1 (tryCatch (pyNext (.ref Ia)) _ >>= _) _ _ _;refine wpAny_bind (wpAny_tryCatch (wpAny_pyNext_list_end hh hit p.isList (by simp;omega) λh' eb=>?_));have I1:Inv X af σ H { s with heap:=h' }:=I.turned (t':=s.toks) (λb o hb e=>eb b o hb e) fI.1 fI.2.1 fI.2.2.2.1 fI.2.2.2.2.1 fI.2.2.2.2.2;have QB:=eb S _ QA hS;show wpAny _ A.in1 (updateSeq S (λ_=>#[]) >>= _) _ _ _;refine wpAny_bind ?_;refine wpAny_updateSeq QB rfl (wpAny_bind (wpAny_letGo (wpAny_pure ?_)));have I2:Inv X af σ H { s with heap:=h'.update S (Obj.mapSeq λ_=>(#[]:Array Value)) }:=I1.turned (t':=s.toks) (λb o hb e=>(Heap.get?_update_other _ _ (Ne.symm hb)).trans e) fS.1 fS.2.1 fS.2.2.2.1 fS.2.2.2.2.1 fS.2.2.2.2.2;refine q a _ H (zB ha) (λb hb=>?_) I2 ext;obtain ⟨j',kh⟩:=yA.mp hb;exact best j' b (by have:=(zC.mp kh).1;omega) kh
 | succ r ih=>
  intro j i s H a tb c hr hj I ext fS fI hS hit ha pZ best;have cN:j + 1 < ps.length:=by omega
  obtain ⟨a',S4⟩:∃ a',ps[j + 1]?=some a':=⟨_,zF cN⟩;obtain ⟨ay,rv,p,_⟩:=I.list (aG.of (ext _ _ hl));obtain ⟨u,hu,ru⟩:=rv.get (i:=j + 1) (by rw [zD,S4];rfl);cases ru;refine codeAny_builtin PySem.F.entry_min_loop ?_;rw [Around.under_plainId yG _];show wpAny _ A.in1 (seqItems? (.ref S) >>= _) _ _ _;refine wpAny_bind (wpAny_seqItems hS rfl ?_);show wpAny _ A.in1 (tryCatch (pyNext (.ref Ia)) _ >>= _) _ _ _;refine wpAny_bind (wpAny_tryCatch (wpAny_pyNext_list_item hit p.isList (x:=.ref a'.1) (by simpa using hu) λh' rz sb=>?_));have I1:Inv X af σ H { s with heap:=h' }:=I.turned (t':=s.toks) (λb o hb e=>(sb.2 b hb).trans e) fI.1 fI.2.1 fI.2.2.2.1 fI.2.2.2.2.1 fI.2.2.2.2.2;have QB:=(sb.2 S QA).trans hS;obtain ⟨oI,Xl,Ql,Rp⟩:=id rz;have I2:Inv X ((S,seqObj "list" #[.ref a.1,.int (kf a.2) tb] c)::(Ia,oI)::af) σ H { s with heap:=h' }:=I1.cB λx hx=>by
   rcases zK.mp hx with rfl | hx
   ·exact ⟨QB,fS.1,fS.2.1,fS.2.2.1,by intro v z;cases z⟩
   ·rcases zK.mp hx with rfl | hx
    ·exact ⟨Xl,fI.1,fI.2.1,fI.2.2.1,by intro v z;rw [Rp] at z;cases z⟩
    ·exact I1.pin x (zJ _ hx)
  show wpAny _ A.in1 (tryCatch (holding [.ref a'.1] (call (.ref fa) [.ref a'.1])) _ >>= _) _ _ _;refine wpAny_bind (wpAny_tryCatch (wpAny_holding (wpAny_mono (turn _ a'.1 a'.2 _ H (λx hx=>.tail _ (.tail _ hx)) (zB S4) I2 ext) (λx lY he=>?_) λ_ _ hF=>hF.elim)));obtain ⟨v',H2,J2,Om,rfl,sm⟩:=he;obtain ⟨t2,rfl⟩:=Om;have pS:=J2.pin (S,seqObj "list" #[.ref a.1,.int (kf a.2) tb] c) (zJ _ (.head _));have pI:=J2.pin (Ia,oI) (zJ _ (.tail _ (.head _)));have J3:Inv X af σ H2 lY:=J2.cB λx hx=>J2.pin x (zJ _ (.tail _ (.tail _ hx)));have ue:=fS.to (H':=H2) pS.2.1;have UP:=fI.to (H':=H2) pI.2.1;have ext2:∀ b u,H0 b=some u->H2 b=some u:=λb u e=>sm _ _ (ext b u e);have Xy:lY.heap.IsListIter Ia l (j + 1 + 1):=⟨oI,pI.1,Ql,Rp⟩;show wpAny _ A.in1 (tryCatch (holding [.ref a'.1,.int (kf a'.2) t2] (richCompare .Lt (.int (kf a'.2) t2) (.int (kf a.2) tb) >>= _)) _ >>= _) _ _ _;refine wpAny_bind (wpAny_tryCatch (wpAny_holding (wpAny_bind (CmpOf.ints_lt (prog:=X.prog) (w:=X.w) (A:=A.in1) (P:=λi v=>∃ t,v=.int ((λn=>if n=0 then kf a'.2 else kf a.2) i) t) (λn=>if n=0 then kf a'.2 else kf a.2) (λi v h=>h) 0 1 _ _ _ _ _ ⟨t2,rfl⟩ ⟨tb,rfl⟩ ?_))));refine wpAny_bind (wpAny_holding (wpAny_truthy_bool ?_));refine wpAny_bind (wpAny_letGo (wpAny_pure ?_));by_cases eW:kf a'.2 < kf a.2
  ·have s1:=Heap.SameBut.update lY.heap S (Obj.mapSeq λ_=>#[.ref a'.1,.int (kf a'.2) t2]);obtain ⟨c2,OG⟩:∃ c2,(lY.heap.update S (Obj.mapSeq λ_=>#[.ref a'.1,.int (kf a'.2) t2])).get? S=some (seqObj "list" #[.ref a'.1,.int (kf a'.2) t2] c2):=⟨_,get?_update_seq pS.1 λ_=>#[.ref a'.1,.int (kf a'.2) t2]⟩;have hd:decide ((if (0:Nat)=0 then kf a'.2 else kf a.2) < (if (1:Nat)=0 then kf a'.2 else kf a.2))=true:=decide_eq_true (by simpa using eW);simp only [if_true,Nat.one_ne_zero,if_false,eW,decide_true];refine wpAny_bind ?_;refine wpAny_updateSeq pS.1 rfl (wpAny_bind (wpAny_letGo ?_));rw [pY];have J4:Inv X af σ H2 { lY with heap:=lY.heap.update S (Obj.mapSeq λ_=>#[.ref a'.1,.int (kf a'.2) t2]) }:=J3.turned (t':=lY.toks) (λb o hb e=>(Heap.get?_update_other _ _ (Ne.symm hb)).trans e) ue.1 ue.2.1 ue.2.2.2.1 ue.2.2.2.2.1 ue.2.2.2.2.2;refine wpAny_pure ⟨plainId_quiet yG _,ih (j + 1) (j + 1) _ H2 a' t2 c2 (by omega) cN J4 ext2 ue UP OG ⟨oI,(s1.2 Ia QA.symm).trans pI.1,Ql,Rp⟩ S4 (zE _) λj' b kh hb=>?_⟩;by_cases e:j'=j + 1
   ·subst e;rw [S4] at hb;cases hb;exact zx _
   ·have:=best j' b (by omega) hb;omega
  ·have hd:decide ((if (0:Nat)=0 then kf a'.2 else kf a.2) < (if (1:Nat)=0 then kf a'.2 else kf a.2))=false:=decide_eq_false (by simpa using eW);simp only [if_true,Nat.one_ne_zero,if_false,eW,decide_false,zg];refine wpAny_bind (wpAny_letGo ?_);rw [pY];refine wpAny_pure ⟨plainId_quiet yG _,ih (j + 1) i _ H2 a tb c (by omega) cN J3 ext2 ue UP pS.1 Xy ha (by omega) λj' b kh hb=>?_⟩;by_cases e:j'=j + 1
   ·subst e;rw [S4] at hb;cases hb;omega
   ·exact best j' b (by omega) hb
theorem vg {E:Value->Shared->Prop}{Q:Value->Shared->Prop}{s:Shared}(hh:A.in1.handled=none)(I:Inv X af σ H0 s)(hl:H0 l=some (.lst (ps.map λa=>V.ref a.1)))(qL:0 < ps.length)(hz:ps.length<=sizeLine)
  (turn:∀ (eO:List (Addr×Obj)) (a:Addr) (r:List Int) (s':Shared) (H':Hp),(∀ p∈af,p∈eO)->(a,r)∈ps->Inv X eO σ H' s'->(∀ b u,H0 b=some u->H' b=some u) ->
   wpAny (model X.prog X.w) A.in1 (call (.ref fa) [.ref a]) (EP X eO σ λv Q7=>v=.int (kf r)/\au H' Q7) (λ_ _=>False) s')
  (q:∀ a s' H',a∈ps->(∀ b∈ps,kf a.2<=kf b.2)->Inv X af σ H' s'->(∀ b u,H0 b=some u->H' b=some u)->Q (.ref a.1) s') :
  wpAny (model X.prog X.w) A (call (.builtin "min") [.ref l] [(Str.ofString "key", .ref fa)]) Q E s:=by
 have pY:(toString "min" ++ toString ".loop" : String) = "min.loop" := by decide
 obtain ⟨ay,rv,p,_⟩:=I.list (aG.of hl);obtain ⟨a0,S2⟩:∃ a,ps[0]?=some a:=⟨_,zF qL⟩;obtain ⟨u,hu,ru⟩:=rv.get (i:=0) (by rw [zD,S2];rfl);cases ru;have li:=rv.length;rw [zA] at li;refine kmk_tree PySem.F.kind_min PySem.F.plain_min PySem.F.entry_min (kmk_min_key _ _) ?_;show wpAny _ A.in1 (Builtin.Builtins.bindParams "min" ["key", "default"] 0 ⟨[],[(Str.ofString "key", .ref fa)]⟩ >>= _) _ _ s;refine wpAny_bind (wpAny_of_eq (show Builtin.Builtins.bindParams "min" ["key", "default"] 0 ⟨[],[(Str.ofString "key", .ref fa)]⟩=pure [some (.ref fa),none] from rfl) ?_);refine wpAny_bind (wpAny_pure ?_);refine wpAny_bind (wpAny_pyIter_list p.isList ?_);refine wpAny_bind (wpAny_newList ?_ (zc _));rw [pY];have hS:(s.heap.push { cls:=.type "list_iterator", data:=.fields #[.ref l,.int 0 0] }).objs.size=s.heap.objs.size + 1:=size_push' ..;refine wpAny_pure ⟨plainId_quiet yG _,?_⟩;have gI:((s.heap.push { cls:=.type "list_iterator", data:=.fields #[.ref l,.int 0 0] }).push (seqObj "list" #[] 0)).get? s.heap.objs.size=some { cls:=.type "list_iterator", data:=.fields #[.ref l,.int 0 0] }:=
  Heap.get?_push_of_some _ (Heap.get?_push_size _ rfl)
 have gS:=Heap.get?_push_size (s.heap.push { cls:=.type "list_iterator", data:=.fields #[.ref l,.int 0 0] }) (o:=seqObj "list" #[] 0) rfl;have fI:=I.nO (b:=s.heap.objs.size) (zE _) I.fresh;have fS:=I.nO (b:=(s.heap.push { cls:=.type "list_iterator", data:=.fields #[.ref l,.int 0 0] }).objs.size) (by rw [hS];exact yC _) (I.aY.fresh (by rw [hS];exact yC _));have QA:(s.heap.push { cls:=.type "list_iterator", data:=.fields #[.ref l,.int 0 0] }).objs.size≠s.heap.objs.size:=by rw [hS];exact yZ (Nat.lt_succ_self _)
 have I0:∀ t',Inv X af σ H0 { s with heap:=(s.heap.push { cls:=.type "list_iterator", data:=.fields #[.ref l,.int 0 0] }).push (seqObj "list" #[] 0),toks:=t' }:=λt'=>I.kept (t':=t') λb o e=>Heap.get?_push_of_some _ (Heap.get?_push_of_some _ e);generalize (s.heap.push { cls:=.type "list_iterator", data:=.fields #[.ref l,.int 0 0] }).objs.size=S at *;generalize (s.heap.push { cls:=.type "list_iterator", data:=.fields #[.ref l,.int 0 0] }).push (seqObj "list" #[] 0)=h1 at *;generalize s.heap.objs.size=Ia at *;refine codeAny_builtin PySem.F.entry_min_loop ?_;rw [Around.under_plainId yG _];show wpAny _ A.in1 (seqItems? (.ref S) >>= _) _ _ _;refine wpAny_bind (wpAny_seqItems gS rfl ?_);show wpAny _ A.in1 (tryCatch (pyNext (.ref Ia)) _ >>= _) _ _ _;have hIt:h1.IsListIter Ia l 0:=⟨_,gI,rfl,rfl⟩;obtain ⟨its',rv',p',_⟩:=(I0 s.toks).list (aG.of hl);obtain ⟨u',hu',KW⟩:=rv'.get (i:=0) (by rw [zD,S2];rfl);cases KW;refine wpAny_bind (wpAny_tryCatch (wpAny_pyNext_list_item hIt p'.isList (x:=.ref a0.1) (by simpa using hu') λh' rz sb=>?_));have I1:∀ t',Inv X af σ H0 { s with heap:=h',toks:=t' }:=λt'=>(I0 s.toks).turned (t':=t') (λb o hb e=>(sb.2 b hb).trans e) fI.1 fI.2.1 fI.2.2.2.1 fI.2.2.2.2.1 fI.2.2.2.2.2;have QB:=(sb.2 S QA).trans gS;obtain ⟨oI,Xl,Ql,Rp⟩:=id rz;have I2:∀ t',Inv X ((S,seqObj "list" #[] 0)::(Ia,oI)::af) σ H0 { s with heap:=h',toks:=t' }:=λt'=>(I1 t').cB λx hx=>by
  rcases zK.mp hx with rfl | hx
  ·exact ⟨QB,fS.1,fS.2.1,fS.2.2.1,by intro v z;cases z⟩
  ·rcases zK.mp hx with rfl | hx
   ·exact ⟨Xl,fI.1,fI.2.1,fI.2.2.1,by intro v z;rw [Rp] at z;cases z⟩
   ·exact (I1 t').pin x (zJ _ hx)
 show wpAny _ A.in1 (tryCatch (holding [.ref a0.1] (call (.ref fa) [.ref a0.1])) _ >>= _) _ _ _;refine wpAny_bind (wpAny_tryCatch (wpAny_holding (wpAny_mono (turn _ a0.1 a0.2 _ H0 (λx hx=>.tail _ (.tail _ hx)) (zB S2) (I2 _) λb u e=>e) (λx lY he=>?_) λ_ _ hF=>hF.elim)));obtain ⟨v',H2,J2,Om,rfl,sm⟩:=he;obtain ⟨t2,rfl⟩:=Om;have pS:=J2.pin (S,seqObj "list" #[] 0) (zJ _ (.head _));have pI:=J2.pin (Ia,oI) (zJ _ (.tail _ (.head _)));have J3:Inv X af σ H2 lY:=J2.cB λx hx=>J2.pin x (zJ _ (.tail _ (.tail _ hx)));have ue:=fS.to (H':=H2) pS.2.1;have UP:=fI.to (H':=H2) pI.2.1;have s1:=Heap.SameBut.update lY.heap S (Obj.mapSeq λ_=>#[.ref a0.1,.int (kf a0.2) t2]);obtain ⟨c2,OG⟩:∃ c2,(lY.heap.update S (Obj.mapSeq λ_=>#[.ref a0.1,.int (kf a0.2) t2])).get? S=some (seqObj "list" #[.ref a0.1,.int (kf a0.2) t2] c2):=⟨_,get?_update_seq pS.1 λ_=>#[.ref a0.1,.int (kf a0.2) t2]⟩;show wpAny _ A.in1 (updateSeq S (λ_=>#[.ref a0.1,.int (kf a0.2) t2]) >>= _) _ _ _;refine wpAny_bind ?_;refine wpAny_updateSeq pS.1 rfl ?_;rw [pY];have J4:Inv X af σ H2 { lY with heap:=lY.heap.update S (Obj.mapSeq λ_=>#[.ref a0.1,.int (kf a0.2) t2]) }:=J3.turned (t':=lY.toks) (λb o hb e=>(Heap.get?_update_other _ _ (Ne.symm hb)).trans e) ue.1 ue.2.1 ue.2.2.2.1 ue.2.2.2.2.1 ue.2.2.2.2.2;refine wpAny_pure ⟨plainId_quiet yG _,vf hh hl QA hz turn q _ 0 0 _ H2 a0 t2 c2 rfl qL J4 (λb u e=>sm _ _ e) ue UP OG ⟨oI,(s1.2 Ia QA.symm).trans pI.1,Ql,Rp⟩ S2 (zE _) λj' b kh hb=>?_⟩;have e:j'=0:=by omega
 subst e;rw [S2] at hb;cases hb;exact zx _
end
structure iM (ps:List Str) (caps:List Nat) (N:List Str) (sc scope:Scope):Prop where
 kind:scope.kind=.function
 co:scope.isCoroutine=false
 gen:scope.isGenerator=false
 iV:∀ y∈scope.names,y.2≠.cell
 par:∀ x∈ps,scope.names.lookup x=some .local
 fr:∀ y∈scope.names,y.2=.free->sc.names.lookup y.1=some .cell\/sc.names.lookup y.1=some .free
 Yh:∀ i∈caps,i < N.length/\scope.names.lookup ((N[i]?).getD Str.empty)=some .free
 nd:ps.Nodup
def sP (X:Cx)(qual:Str)(scope:Scope)(L f:Addr)(cd:Value):Env:={ scope:=scope,locals:=L,globals:=mainGlobals,cells:=dN scope.names X.env [],qual:=qual ++ ".<locals>.", func:=some f,code:=cd,frame:=some L,builtins:=builtinsNs }
def Mi (X:Cx)(ps:List Str)(caps:List Nat)(qual:Str)(scope:Scope)(f:Addr)(cd:Value)(A:Around)(s:Shared)(H:Hp):Cx:=
 { X with A:=A.deeper (sP X qual scope s.heap.objs.size f cd),N:=ps++caps.map (λi=>(X.N[i]?).getD Str.empty),cO:=s,vR:=H,env:=sP X qual scope s.heap.objs.size f cd,outer:=X.stack,stack:=sP X qual scope s.heap.objs.size f cd::X.stack,ex:=[],fn:=λ_=>false,calm:=true,pn:=[],xe:=λ_ _=>False }
def gF (vs:List V)(caps:List Nat)(σ:St):St:=vs.map some++caps.map λi=>(σ[i]?).join
theorem oH {x:Str}{u:Value}:∀ {ps:List Str}{us:List Value}{i:Nat},ps.Nodup->ps[i]?=some x->us[i]?=some u->(ps.zip us).reverse.lookup x=some u
 | [],_,i,_,h,_=>by simp at h
 | p::ps,[],i,_,_,h=>by simp at h
 | p::ps,v::us,0,nd,h,h'=>by
  obtain rfl:p=x:=Option.some.inj h;obtain rfl:v=u:=Option.some.inj h';rw [List.zip_cons_cons,yx,List.lookup_append];have:(ps.zip us).reverse.lookup p=none:=by
   rw [List.lookup_eq_none_iff];rintro ⟨a,b⟩ hb;have:=(xI (yP.mp hb)).1;have ne:a≠p:=λe=>(yg.mp nd).1 (by rw [<-e];exact this);simpa using Ne.symm ne
  rw [this];simp
 | p::ps,v::us,i + 1,nd,h,h'=>by
  rw [List.zip_cons_cons,yx,List.lookup_append,oH (yg.mp nd).2 h h'];rfl
section
variable {X:Cx}{af:List (Addr×Obj)}{σ:St}{H:Hp}{s:Shared}
theorem NQ {ps:List Str}{caps:List Nat}{qual:Str}{scope:Scope}{f:Addr}{cd:Value}{A:Around}{us:List Value}{vs:List V}{h1:Heap}{tk:Nat}(I:Inv X af σ H s)(S:iM ps caps X.N X.env.scope scope)
  (hh:A.handled=none) (hf:A.frames=some X.stack) (hl:vs.length=ps.length) (r:Vals vs us)
  (N1:h1.Ns s.heap.objs.size λx=>(ps.zip us).reverse.lookup x) (MQ:Heap.SameBut s.heap.objs.size (s.heap.push { cls:=.type "frame", data:=.dict #[] }) h1) :
  Inv (Mi X ps caps qual scope f cd A s H) [] (gF vs caps σ) H { s with heap:=h1,toks:=tk }:=by
 have keep:∀ b o,s.heap.get? b=some o->h1.get? b=some o:=λb o e=>(MQ.2 b (zW (Heap.lt_size e))).trans (Heap.get?_push_of_some _ e);refine ⟨⟨I.ok.mod,S.kind,rfl,rfl,zE _,λx y c h1 h2=>I.ok.inj x y c (wD h1) (wD h2),λx hx=>?_,λx c z _=>absurd (show false=true from z) zM,λ_=>hh,Around.frames_deeper hf,.inr ⟨rfl,rfl⟩,
   λb hb=>absurd (show b∈([]:List Addr) from hb) (by simp),I.bs,zz I.ok.Mq I.sz,λb _ _ z=>absurd (show b∈([]:List Addr) from z) (by simp),λb hb=>absurd (show b∈([]:List Addr) from hb) (by simp),I.stack,I.m9⟩,
  rfl,I.bare,Un.kept keep,⟨_,N1,λi x v e1 e2 e3=>?_⟩,λx c e=>?_,I.aY.fresh (zE _),λx c e=>I.fH x c (wD e),λp hp=>absurd (show p∈([]:List (Addr×Obj)) from hp) (by simp),I.aY.kept keep,?_⟩
 ·have hx:scope.names.lookup x=some .cell\/scope.names.lookup x=some .free:=hx;rcases hx with hx | hx
  ·exact absurd rfl (S.iV _ (zp hx))
  ·have hm:=zp hx;obtain ⟨c,hc⟩:=I.ok.has x (S.fr _ hm rfl);exact ⟨c,fW hm hc⟩
 ·have uf:(vs.map some++caps.map λi=>(σ[i]?).join)[i]?=some (some v):=e2;have nV:(ps++caps.map (λi=>(X.N[i]?).getD Str.empty))[i]?=some x:=e1;by_cases hi:i < ps.length
  ·rw [zi (by simpa [hl] using hi),zD] at uf;rw [zi hi] at nV;have hv:vs[i]?=some v:=by
    cases q:vs[i]? with
    | none=>rw [q] at uf;cases uf
    | some y=>rw [q] at uf;cases uf;rfl
   obtain ⟨u,hu,ru⟩:=r.get hv;have kx:=S.par x (zB nV);exact ⟨u,ru,.inl ⟨kx,oH S.nd nV hu⟩⟩
  ·have hi:ps.length<=i:=Nat.le_of_not_lt hi;rw [zY (by simpa [hl] using hi),zA,hl,zD] at uf;rw [zY hi,zD] at nV;cases ek:caps[i - ps.length]? with
   | none=>rw [ek] at nV;cases nV
   | some k=>
    rw [ek] at nV uf;have ex:(X.N[k]?).getD Str.empty=x:=Option.some.inj nV;have ev:(σ[k]?).join=some v:=Option.some.inj uf;have Yb:σ[k]?=some (some v):=by
     cases q:σ[k]? with
     | none=>rw [q] at ev;cases ev
     | some y=>rw [q] at ev;exact congrArg some ev
    obtain ⟨Qt,XG⟩:=S.Yh k (zB ek);have eN:X.N[k]?=some x:=by
     rw [zF Qt] at ex ⊢;exact congrArg some ex
    rw [ex] at XG;have hm:=zp XG;have SV:=S.fr _ hm rfl;obtain ⟨m,_,N3⟩:=I.loc;obtain ⟨u,ru,lk⟩:=N3 k x v eN Yb (.inr SV);refine ⟨u,ru,.inr ⟨.inr XG,?_⟩⟩;rcases lk with ⟨kl,_⟩ | ⟨_,c,hc,ob,NY,hd⟩
    ·have NN:X.env.scope.names.lookup x=some .local:=kl;rcases SV with z | z
     ·have z':X.env.scope.names.lookup x=some .cell:=z;rw [z'] at NN;cases NN
     ·have z':X.env.scope.names.lookup x=some .free:=z;rw [z'] at NN;cases NN
    ·exact ⟨c,fW hm hc,ob,keep c ob NY,hd⟩
 ·obtain ⟨v,ob,NY,hd⟩:=I.cell x c (wD e);exact ⟨v,ob,keep c ob NY,hd⟩
 ·show (gF vs caps σ).length=(ps++caps.map (λi=>(X.N[i]?).getD Str.empty)).length;simp [gF,hl]
theorem Lv {c' f:Addr}{k:Nat}{name qual:Str}{params:Arguments}{body:Expr}{scope:Scope}{pm nY:Value}{ps:List Str}{caps:List Nat}{A:Around}{us:List Value}{vs:List V}{Q:VK}(I:Inv X af σ H s)(S:iM ps caps X.N X.env.scope scope)(hr:c8 (k + 1) A)
  (hf:A.frames=some X.stack) (ho:s.heap.get? f=some (kla_obj name qual params body scope (dN scope.names X.env []) pm c' nY)) (p5:s.heap.CodeRec (.ref c') qual) (hb:bindArgs (kla_fn name qual params body scope (dN scope.names X.env []) pm (.ref c') nY) ⟨us,[]⟩=pure (ps.zip us)) (hl:vs.length=ps.length) (r:Vals vs us)
  (iB:∃ t,PE (Mi X ps caps qual scope f (.ref c') A s H).Lh body t/\t (gF vs caps σ) H Q) :
  wpAny (model X.prog X.w) A (call (.ref f) us) (EP X af σ Q) (λ_ _=>False) s:=by
 have lim:s.heap.NoLimit:=I.nolimit;have N3:∀ y∈ps.zip us,scope.names.lookup y.1=some .local:=λ⟨n,v⟩ hy=>S.par n (xI hy).1;refine wpAny_call (codeAny_mono (R:=λr s'=>match r with | .ok (.ret u)=>EP X af σ Q u s' | _=>False) (kla_callFunE hr.depth ho rfl S.co S.gen rfl p5 ?_) λr s3 SG=>?_)
 ·rw [hb];refine wpAny_pure ?_;refine PySem.wpAny_newFunctionEnv S.iV N3 (λh1 N1 MQ=>?_) S.kind;have keep:∀ b o,s.heap.get? b=some o->h1.get? b=some o:=λb o e=>(MQ.2 b (zW (Heap.lt_size e))).trans (Heap.get?_push_of_some _ e);refine ⟨lim.keeps keep,kla_codeExpr ?_⟩;obtain ⟨t,ht,hq⟩:=iB;have J:=NQ (qual:=qual) (f:=f) (cd:=.ref c') (A:=A) (tk:=s.toks + (ps.zip us).length) I S hr.hd hf hl r N1 MQ;refine wpAny_mono (ht.Lh [] _ (gF vs caps σ) H _ J hq) (λu s' hs=>?_) λe s' hs=>hs.elim;obtain ⟨v,H',J',rv,q⟩:=hs;exact I.after ⟨v,H',J'.os,J'.bare,J'.base,J'.aY,rv,q⟩
 ·cases r with
  | error e=>exact SG.elim
  | ok fl=>
   cases fl with
   | ret u=>exact SG
   | next=>exact False.elim SG
   | brk=>exact False.elim SG
   | cont=>exact False.elim SG
end
end L2
namespace L2
open PySem PySem.Spec PyProof.Rows PySem.W aR PySem.Calls
def RH (P:Addr)(pP:Pos)(qual:Str)(caps:List Nat)(te tb:TE):TE:=fun σ H Q=>te σ H λx H1=>∃ l,∃ ps:List (Addr×List Int),∃ kf:List Int->Int,[x]=[V.ref l]/\H1 l=some (.lst (ps.map λa=>V.ref a.1))/\0 < ps.length/\MT P pP qual H1/\(∀ a∈ps,H1 a.1=some (.tup (a.2.map V.int))) /\
 (∀ a∈ps,∀ H',Sm.cL P H1 H'->tb (gF [V.ref a.1] caps σ) H' λv Q7=>v=.int (kf a.2)/\au H' Q7) /\
 ∀ a H2,a∈ps->(∀ b∈ps,kf a.2<=kf b.2)->Sm.cL P H1 H2->MT P pP qual H2->Q (.ref a.1) H2
section
variable {X:Cx}{e body:Expr}{te tb:TE}{np kp pP pos:Pos}{params:Arguments}{scope:Scope}{P c:Addr}{caps:List Nat}{pn:Str}
theorem u9 (S0:X.calm=true)(hg:Gl X "min")(hm:X.mg "min" = none)(t6:X.env.code=.ref c)(p5:codeHdIn X.K c P=true)(bm:aS X.mg X.base)(Qx:defaultsOf params X.env=([],[]))(hr:c8 3 X.A)
  (S:iM [pn] caps X.N X.env.scope scope) (LL:∀ kF pm c' nY u,bindArgs (kla_fn "<lambda>" (X.env.qual ++ "<lambda>") params body scope kF pm (.ref c') nY) ⟨[u],[]⟩=pure (List.zip [pn] [u]))
  (iB:∀ f c' A s H,PE (Mi X [pn] caps (X.env.qual ++ "<lambda>") scope f (.ref c') A s H).Lh body tb)
  (he:PE X e te) (ns:notStar e=true) :
  PE X (.Call (.Name "min" np) [e] [⟨some "key", .Lambda params body scope pP,kp⟩] pos) (RH P pP (X.env.qual ++ "<lambda>") caps te tb):=by
 intro af s σ H Q I h;have ha:PA X [e] (jM te rj):=xO (xQ he xY ns);have hh:X.A.handled=none:=I.ok.hd S0;refine wpAny_Call_Name_kw (cj I hg hm ye ?_ (by decide) (by decide));refine callWith_kw (aZ (ha pos af s σ H (λvs H1=>∃ l,∃ ps:List (Addr×List Int),∃ kf:List Int->Int,vs=[V.ref l]/\H1 l=some (.lst (ps.map λa=>V.ref a.1))/\0 < ps.length/\MT P pP (X.env.qual ++ "<lambda>") H1/\(∀ a∈ps,H1 a.1=some (.tup (a.2.map V.int))) /\
  (∀ a∈ps,∀ H',Sm.cL P H1 H'->tb (gF [V.ref a.1] caps σ) H' λv Q7=>v=.int (kf a.2)/\au H' Q7) /\
  ∀ a H2,a∈ps->(∀ b∈ps,kf a.2<=kf b.2)->Sm.cL P H1 H2->MT P pP (X.env.qual ++ "<lambda>") H2->Q (.ref a.1) H2) I h)
  λus s1 ⟨vs,H1,I1,r1,q1⟩=>kws_cons ?_) (by rw [iR ns];rfl) (by rw [iR ns];rfl)
 obtain ⟨l,ps,kf,rfl,hl,qL,mt,rows,hb,q⟩:=q1;obtain ⟨u,rfl,ru⟩:=vals1 r1;cases ru;have UH:closureFor scope X.env=pure (dN scope.names X.env []):=gh λy hy hf=>I1.ok.has y.1 (S.fr y hy hf);refine Lw I1 mt t6 p5 bm Qx UH λf c' nY pm H' s' J S1 bt mt'=>kws_nil ?_;have Uq:∀ b u,H1 b=some u->(∀ ys,u≠.ju ys)->b≠P:=λb u e n z=>by
  rcases mt with m | ⟨_,m,_⟩ <;> (rw [z,m] at e;cases e;exact n _ rfl)
 have Qt:=bt _ _ (Uq _ _ hl (by intro ys z;cases z)) hl;obtain ⟨hz,_⟩:=I1.sd hl;rw [zA] at hz;have Xm:(f,kla_obj "<lambda>" (X.env.qual ++ "<lambda>") params body scope (dN scope.names X.env []) pm c' nY)∈(f,kla_obj "<lambda>" (X.env.qual ++ "<lambda>") params body scope (dN scope.names X.env []) pm c' nY)::af:=.head _;refine vg (kf:=kf) (by first | exact hh | simpa using hh) J Qt qL hz (λeO a r s2 H2 sub ha J2 ext=>?_) λa s2 H2 ha best J2 ext=>?_
 ·have hf:=J2.pin _ (zJ _ (sub _ Xm));have hcr:s2.heap.CodeRec (.ref c') (X.env.qual ++ "<lambda>"):=(J2.aY c' _ (ext _ _ S1)).1;exact Lv (k:=1) J2 S hr.in1 J2.Te.in1.frames hf.1 hcr (LL _ pm c' nY (.ref a)) (vs:=[V.ref a]) rfl (.cons rfl .nil) ⟨tb,iB f c' X.A.in1 s2 H2,hb (a,r) ha H2 λb u n e=>ext b u (bt b u n e)⟩
 ·refine ⟨.ref a.1,H2,J2.cB λp hp=>J2.pin p (zJ _ (.tail _ hp)),rfl,q a H2 ha best (λb u n e=>ext b u (bt b u n e)) ?_⟩;rcases mt' with m | ⟨c1,m,m2⟩
  ·exact .inl (ext _ _ m)
  ·exact .inr ⟨c1,ext _ _ m,ext _ _ m2⟩
end
end L2
namespace Sm
open PySem L2
def jy:Str:=(("best_split" : Str) ++ ".<locals>.") ++ "<lambda>"
def nh (K:PySem.W.Frag)(T:Addr)(lp:Pos):Sp:=λvs H Q _=>∃ (a:Addr) (ns:List Int),vs=[.ref a]/\aG K H a (ns.map V.int)/\ns.length<=63/\MT T lp jy H/\∀ H',Q (.bl true) H'
theorem _root_.L2.MT.cW {P:Addr}{pos:Pos}{q:Str}{H H':Hp}(m:MT P pos q H)(s:au H H'):MT P pos q H':=by
 rcases m with m | ⟨c,m,k⟩
 ·exact .inl (s _ _ m)
 ·exact .inr ⟨c,s _ _ m,s _ _ k⟩
theorem _root_.L2.MT.Lm {P a:Addr}{pos:Pos}{q:Str}{H:Hp}{xs:List V}(m:MT P pos q H)(k:H a=some (.lst xs)):a≠P:=by rintro rfl;rcases m with m | ⟨c,m,_⟩ <;> (rw [k] at m;cases m)
theorem _root_.L2.MT.rY {P a:Addr}{pos:Pos}{q:Str}{H:Hp}{xs:List V}(m:MT P pos q H)(k:H a=some (.tup xs)):a≠P:=by rintro rfl;rcases m with m | ⟨c,m,_⟩ <;> (rw [k] at m;cases m)
abbrev wq (ws:List (Addr×Nat×Int)):Wq:=ws.map (·.2)
structure oA (H:Hp) (b l:Addr) (aa:List Int) (tr tm:Addr) (ps:List (Addr×M4)) (ws:List (Addr×Nat×Int)):Prop where
 bk:aL H b aa tr tm ps
 gd:Good aa.length (ps.map (·.2))
 r1:1<=aa.length
 u0:aa.length<=12
 wa:c6 H l aa.length ws
 w4:ws.length<=4
theorem oA.same {H H':Hp}{b l:Addr}{aa:List Int}{tr tm:Addr}{ps:List (Addr×M4)}{ws:List (Addr×Nat×Int)}(h:oA H b l aa tr tm ps ws)(s:au H H'):oA H' b l aa tr tm ps ws:=
 ⟨h.bk.same s,h.gd,h.r1,h.u0,h.wa.same s,h.w4⟩
def uN:Sp:=λvs H Q _=>∃ b l,∃ j w s:Nat,∃ aa tr tm ps ws,vs=[.ref b,.ref l,.int (j:Int),.int (w:Int),.int (s:Int)]/\oA H b l aa tr tm ps ws/\s < 2 ^ ws.length/\∀ H',au H H'->Q (.int ((aC (ps.map (·.2)) (wq ws) j w s:Nat):Int)) H'
def kR (H:Hp)(v:V)(W sz:Nat)(F:Option (Nat->Nat->Int)):Prop:=(v=.bD/\F=none)\/∃ a,∃ A:List ou,v=.ref a/\H a=some (.lst (A.map λb=>V.ref b.1))/\A.length=W/\(∀ b∈A,H b.1=some (.lst (b.2.map V.int))/\b.2.length=sz)/\F=some λw s=>(((A.map (·.2)).getD w []).getD s 0)
theorem kR.same {H H':Hp}{v:V}{W sz:Nat}{F:Option (Nat->Nat->Int)}(h:kR H v W sz F)(s:au H H'):kR H' v W sz F:=by
 rcases h with h | ⟨a,A,e,k,l,r,f⟩
 ·exact .inl h
 ·exact .inr ⟨a,A,e,s _ _ k,l,λb hb=>⟨s _ _ (r b hb).1,(r b hb).2⟩,f⟩
def uR:Sp:=λvs H Q _=>∃ b,∃ j w s:Nat,∃ v aa tr tm ps sz F,vs=[.ref b,.int (j:Int),.int (w:Int),.int (s:Int),v]/\aL H b aa tr tm ps/\Good aa.length (ps.map (·.2))/\aa.length<=12/\w < aa.length/\s < sz/\sz<=16/\kR H v aa.length sz F/\(∀ G,F=some G->j < ps.length) /\
 ∀ x H',au H H'->dB (ps.map (·.2)) j F w s x->Q (.int x) H'
def M9:Sp:=λvs H Q _=>∃ b l,∃ j w:Nat,∃ v aa tr tm ps ws F,vs=[.ref b,.ref l,.int (j:Int),.int (w:Int),v]/\oA H b l aa tr tm ps ws/\w < aa.length/\kR H v aa.length (2 ^ ws.length) F/\(∀ G,F=some G->j < ps.length) /\
 ∀ lr (r:List Int) H',au H H'->H lr=none->H' lr=some (.lst (r.map V.int))->r.length=2 ^ ws.length->je (ps.map (·.2)) (wq ws) j F w (λs=>r.getD s 0)->Q (.ref lr) H'
def rJ:Sp:=λvs H Q _=>∃ b l aa tr tm ps ws,vs=[.ref b,.ref l]/\oA H b l aa tr tm ps ws /\
 ∀ lp P H',au H H'->H lp=none->(∀ a∈P,H a.1=none/\∀ b∈a.2,H b.1=none)->gQ H' lp ps.length aa.length (2 ^ ws.length) P->dh (ps.map (·.2)) (bg (aD P)) aa.length (wq ws)->Q (.ref lp) H'
def KP (T:Addr)(lp:Pos):Sp:=λvs H Q _=>∃ lk lg,∃ s:Nat,∃ xs ys:List Int,∃ sz,vs=[.ref lk,.ref lg,.int (s:Int)]/\H lk=some (.lst (xs.map V.int))/\H lg=some (.lst (ys.map V.int))/\xs.length=sz/\ys.length=sz/\s < sz/\sz<=16/\MT T lp jy H /\
 ∀ t (p:Nat) H',cL T H H'->MT T lp jy H'->H' t=some (.tup [.int (p:Int),.int ((s - p:Nat):Int)])->bA p s->(∀ p',bA p' s->xs.getD p 0 + ys.getD (s - p) 0<=xs.getD p' 0 + ys.getD (s - p') 0)->Q (.ref t) H'
structure sX (H:Hp) (lt:Addr) (ms:List M4) (v:Nat) (a:Int) (ws:Wq) (Tl:List (Addr×Nat×Nat)) (h:Fn):Prop where
 top:H lt=some (.lst (Tl.map λx=>V.ref x.1))
 row:∀ x∈Tl,H x.1=some (.tup [.int (x.2.1:Int),.int (x.2.2:Int)])
 tr:lK ms (cnt ms a) (aE v a) (Tl.map (·.2)) h
 sv:bR h ws
def KI (T:Addr)(gb:Pos):Sp:=λvs H Q _=>∃ b,∃ k:Nat,∃ a l lp aa tr tm ps ws P,vs=[.ref b,.int (k:Int),.int a,.ref l,.ref lp]/\dQ H b l lp aa tr tm ps ws P/\k < aa.length/\dh (ps.map (·.2)) (bg (aD P)) aa.length (wq ws) /\
 bg (aD P) (cnt (ps.map (·.2)) a) k (2 ^ ws.length - 1)<=ps.length/\(∀ x∈wq ws,x.1=k->a<=x.2)/\MT T gb jy H /\
 ∀ lt Tl h H',cL T H H'->MT T gb jy H'->H lt=none->sX H' lt (ps.map (·.2)) k a (wq ws) Tl h->(Tl.length:Int)=bg (aD P) (cnt (ps.map (·.2)) a) k (2 ^ ws.length - 1)->Q (.ref lt) H'
def fY (ms:List M4)(k:Nat)(a:Int)(ws:Wq)(i:Nat):Prop:=(∃ x,ws[i]?=some x/\bX (fwd ms (aE k a) x.1) x.2=false)/\∀ j,j < i->∀ x,ws[j]?=some x->bX (fwd ms (aE k a) x.1) x.2=true
def Mz (H:Hp)(t:Addr)(n:Nat)(ms:List M4)(k:Nat)(a:Int)(K:Nat)(ws:Wq):Prop:=
 (∃ i lt,H t=some (.tup [.str (Str.ofString "never"),.int ((i:Nat):Int),.ref lt])/\fY ms k a ws i/\H lt=some (.lst ((rep n (fwd ms (aE k a))).map oV))) \/
 ∃ lt lp Tl h P,H t=some (.tup [.str (Str.ofString "tree"),.ref lt,.ref lp])/\bR (fwd ms (aE k a)) ws/\sX H lt ms k a ws Tl h/\gQ H lp ms.length n (2 ^ K) P/\dh ms (bg (aD P)) n ws/\(Tl.length:Int)=bg (aD P) (cnt ms a) k (2 ^ K - 1)
end Sm
namespace Sm
open PySem L2 aR
theorem NJ {k:Nat}{x:Int}:aE k x k=some x:=by unfold aE;rw [if_pos rfl]
theorem mJ {i:Nat}{y:Int}:∀ {ws:List W3}{st:Fn},st i=some y->ws.foldl aJ st i=some y
 | [],_,h=>h
 | x::ws,st,h=>mJ (ws:=ws) (st:=aJ st x) (kj h)
theorem p8 (ms:List M4)(s:Nat)(a:Int):fwd ms (aE s a) s=some a:=mJ NJ
end Sm
namespace L2
open PySem PySem.Spec PyProof.Rows
section
variable {prog:Program}{w:World}{A:Around}{E:Value->Shared->Prop}{s:Shared}
theorem jv:isSubtype (.type "range_iterator") (.type "reversed")=pure false:=by rw [isSubtype_type];kernel_rfl
def ku (n:Nat):Obj:={ cls:=.type "range_iterator", data:=.fields #[rawInt ((n:Int) - 1),rawInt (n:Int),rawInt (-1)] }
theorem lI {r:Addr}{n:Nat}{t u v:Tok}{Q:Value->Shared->Prop}(hr:IsRange s.heap r 0 (n:Int) 1 t u v)(hn:(n:Int) < 2 ^ 62)
  (h:Q (.ref s.heap.objs.size) { s with heap:=s.heap.push (ku n) }):wpAny (model prog w) A (call (.builtin "range.__reversed__") [.ref r]) Q E s:=by
 refine wpAny_call_entry F.slot_range_reversed ⟨_,hr,rfl⟩ F.entry_range_reversed ?_ (F.args_range_reversed_1 _);unfold Builtin.«range.__reversed__»;refine wpAny_bind (wpAny_of_eq (a:=Value.ref r) rfl ?_);have sz:Builtin.Range.rangeSize 0 (n:Int) 1=(n:Int):=by rw [rangeSize_one];split <;> omega
 have fit:∀ x:Int,-(2 ^ 62)<=x->x < 2 ^ 62->Builtin.Range.rangeFitsLong x=true:=λx h1 h2=>by
  unfold Builtin.Range.rangeFitsLong;simp only [zb,decide_eq_true_eq];constructor <;> omega
 unfold Builtin.Range.rangeFields;have ea:∀ (i:Int) (t:Tok),asInt? (Value.int i t)=(pure (some i):Sem (Option Int)):=λ_ _=>rfl;refine wpAny_bind (wpAny_bind (wpAny_field hr rfl (x:=.int 0 t) rfl ?_));rw [ea,pure_bind];refine wpAny_bind (wpAny_field hr rfl (x:=.int n u) rfl ?_);rw [ea,pure_bind];refine wpAny_bind (wpAny_field hr rfl (x:=.int 1 v) rfl ?_);rw [ea,pure_bind];refine wpAny_pure ?_;have sm:(Builtin.Range.rangeFitsLong 0 && Builtin.Range.rangeFitsLong (n:Int) && Builtin.Range.rangeFitsLong 1 && Builtin.Range.rangeFitsLong (-1) && Builtin.Range.rangeFitsLong (0 - 1) && Builtin.Range.rangeFitsLong (n:Int))=true:=by
  rw [fit 0 (by decide) (by decide),fit n (by omega) (by omega),fit 1 (by decide) (by decide),fit (-1) (by decide) (by decide),fit (0 - 1) (by decide) (by decide)];rfl
 dsimp only;rw [sz,sm];simp only [Bool.not_true,zg,if_false,if_true];have e:(0:Int) + ((n:Int) - 1) * 1=(n:Int) - 1:=by omega
 rw [e];exact wpAny_bind (wpAny_newObj_type (wpAny_pure ⟨_,rfl,h⟩))
theorem vN {r:Addr}{n:Nat}{t u v:Tok}{Q₁:Value->Shared->Prop}(hr:IsRange s.heap r 0 (n:Int) 1 t u v)(hn:(n:Int) < 2 ^ 62)
  (h:Q₁ (.ref s.heap.objs.size) { s with heap:=s.heap.push (ku n) }) :
  codeAny (model prog w) A (.call (.builtin "reversed.__new__") ⟨[.type "reversed", .ref r],[]⟩) (wants Q₁ E) s:=by
 have hT:s.TypeIs (.ref r) "range" := ⟨_,hr,rfl⟩;refine codeAny_of_tree ?_;show wpAny _ A.in1 (do checkBuiltinCall "reversed.__new__" ⟨[.type "reversed", .ref r],[]⟩;again (.builtin "reversed.__new__" ⟨[.type "reversed", .ref r],[]⟩)) _ _ s;refine wpAny_bind (wpAny_of_eq (F.newCall_reversed_1 _) (wpAny_pure ⟨plainId_quiet F.plain_reversed_new _,codeAny_builtin F.entry_reversed_new ?_⟩));rw [Around.under_plainId F.plain_reversed_new _];unfold Builtin.«reversed.__new__»;refine wpAny_bind (wpAny_of_eq (newClass_reversed _) ?_);try dsimp only
 refine wpAny_bind (wpAny_of_eq (a:=()) (by first | rfl | kernel_rfl) ?_);refine wpAny_bind (wpAny_of_eq (a:=()) (by first | rfl | kernel_rfl) ?_);try dsimp only
 refine wpAny_bind (wpAny_specialOf hT F.slot_range_reversed.lookup ?_);try dsimp only
 refine wpAny_bind (wpAny_of_eq (F.slot_range_reversed.bind _) ?_);try dsimp only
 first
 | rw [if_neg (show ¬ ((Value.builtin "range.__reversed__" == Value.none)=true) from zM)]
 | (show wpAny _ _ (if (Value.builtin "range.__reversed__" == Value.none)=true then _ else _) _ _ _;rw [if_neg (show ¬ ((Value.builtin "range.__reversed__" == Value.none)=true) from zM)])
 refine wpAny_bind (wpAny_rule ?_);refine wpAny_bind (m:=runValue (.call (.builtin "range.__reversed__") ⟨[.ref r],[]⟩)) (show wpAny _ _ (call (.builtin "range.__reversed__") [.ref r]) _ _ _ from lI hr hn ?_)
 first
 | exact wpAny_pure h
 | exact wpAny_bind (wpAny_pure (wpAny_pure h))
theorem vO {r:Addr}{n:Nat}{t u v:Tok}{Q:Value->Shared->Prop}(hr:IsRange s.heap r 0 (n:Int) 1 t u v)(hn:(n:Int) < 2 ^ 62)
  (h:Q (.ref s.heap.objs.size) { s with heap:=s.heap.push (ku n) }):wpAny (model prog w) A (call (.type "reversed") [.ref r]) Q E s:=by
 refine callType_other (U := "range_iterator") (Q₁:=λobj aN=>obj=.ref s.heap.objs.size/\aN={ s with heap:=s.heap.push (ku n) }) (by decide +kernel) F.create_reversed ⟨_,_,F.mro_reversed⟩ F.made_reversed jv (F.typeCall_reversed_1 _) (vN hr hn ⟨rfl,rfl⟩) ?_;rintro obj aN ⟨rfl,rfl⟩;exact ⟨⟨_,Heap.get?_push_size _ rfl,rfl⟩,h⟩
end
def Sw (ta:TA):TI:=fun σ H R=>ta σ H λvs H1=>∃ n:Nat,vs=[.int (n:Int)]/\(n:Int) < 2 ^ 62/\R (TY ((n:Int) - 1) (-1) n) H1
theorem Nu {X:Cx}{tg a:Expr}{ta:TA}{p pos p2 fu:Pos}(hg:Gl X "reversed")(hm:X.mg "reversed" = none)(XC:Gl X "range")(Xn:X.mg "range" = none)(ha:PA X [a] ta)(hs:starEach [a] X.env=[(false,eval a X.env)]:=by rfl)
  (tZ:starEach [.Call (.Name "range" p2) [a] [] fu] X.env=[(false,eval (.Call (.Name "range" p2) [a] [] fu) X.env)]:=by rfl) :
  PI X tg (.Call (.Name "reversed" p) [.Call (.Name "range" p2) [a] [] fu] [] pos) (Sw ta):=by
 intro af s σ H R I h;refine Call_ (cj I hg hm boot_reversed (zl (rest:=[]) ?_ tZ rfl));rw [tZ];show wpAny _ _ (spliced ((false,eval (.Call (.Name "range" p2) [a] [] fu) X.env)::backTo pos (starEach [] X.env))) _ _ s;refine Calls.spliced_cons (Call_ (cj I XC Xn boot_range (zl (aZ (ha fu af s σ H _ I h) λus s1 ⟨vs,H1,I1,r1,q1⟩=>?_) hs rfl)));obtain ⟨n,e,hn,q⟩:=q1;subst e;cases r1 with
 | cons r rr=>
  cases rr;obtain ⟨t,rfl⟩:=r;refine call_range_1 (Calls.spliced_nil ?_);have Yu:Inv X af σ H1 { s1 with heap:=s1.heap.push { cls:=.type "range", data:=.fields #[.int 0 s1.toks,.int (n:Int) t,.int 1 (s1.toks + 1)] },toks:=s1.toks + 1 + 1 }:=I1.kept λb o e=>Heap.get?_push_of_some _ e;refine vO (n:=n) (IsRange.new ..) hn ?_;have I2:Inv X af σ H1 { s1 with heap:=(s1.heap.push { cls:=.type "range", data:=.fields #[.int 0 s1.toks,.int (n:Int) t,.int 1 (s1.toks + 1)] }).push (ku n),toks:=s1.toks + 1 + 1 }:=Yu.kept λb o e=>Heap.get?_push_of_some _ e;have hit:IsRangeIter ((s1.heap.push { cls:=.type "range", data:=.fields #[.int 0 s1.toks,.int (n:Int) t,.int 1 (s1.toks + 1)] }).push (ku n)) (s1.heap.push { cls:=.type "range", data:=.fields #[.int 0 s1.toks,.int (n:Int) t,.int 1 (s1.toks + 1)] }).objs.size (((n:Int) - 1) + ((0:Nat):Int) * (-1)) ((n:Int) - ((0:Nat):Int)) (-1):=by
   have:=Heap.get?_push_size (s1.heap.push { cls:=.type "range", data:=.fields #[.int 0 s1.toks,.int (n:Int) t,.int 1 (s1.toks + 1)] }) (o:=ku n) rfl;rw [show ((n:Int) - 1) + ((0:Nat):Int) * (-1)=(n:Int) - 1 by omega,show (n:Int) - ((0:Nat):Int)=n by omega];exact this
  have T:=oQ (P:=X.prog) (w:=X.w) (K:=X.K) (tg:=tg) (s1.heap.push { cls:=.type "range", data:=.fields #[.int 0 s1.toks,.int (n:Int) t,.int 1 (s1.toks + 1)] }).objs.size ((n:Int) - 1) (-1) n;refine T.self X.A 0 _ _ _ hit ?_;refine ⟨_,[(s1.heap.push { cls:=.type "range", data:=.fields #[.int 0 s1.toks,.int (n:Int) t,.int 1 (s1.toks + 1)] }).objs.size],_,_,H1,rfl,I2,T,hit,λb hb=>?_,q⟩;have e:b=(s1.heap.push { cls:=.type "range", data:=.fields #[.int 0 s1.toks,.int (n:Int) t,.int 1 (s1.toks + 1)] }).objs.size:=by simpa using hb
  subst e;exact Yu.nO (zE _) (Yu.aY.fresh (zE _))
end L2
namespace Sm
open PySem L2
theorem Lr (s k i:Nat):(iX s k).testBit i=(s.testBit i && !decide (i=k)):=by
 unfold iX;by_cases h:s.testBit k=true
 ·rw [if_pos h];have p2:bA (2 ^ k) s:=λi hi=>by
   rw [zq] at hi;rw [<-of_decide_eq_true hi];exact h
  rw [(gH p2).2.2,zq];by_cases e:i=k
  ·subst e;simp
  ·simp [e,Ne.symm e]
 ·rw [if_neg h];by_cases e:i=k
  ·subst e;simp only [Bool.not_eq_true] at h;rw [h];rfl
  ·simp [e]
theorem Oa {ms:List M4}{ws:List (Addr×Nat×Int)}{j w i:Nat}{x:Addr×Nat×Int}(h:ws[i]?=some x):dz ms (wq ws) j w i=(decide (x.2.1=w) && decide (j<=cnt ms x.2.2)):=by unfold dz wq;rw [zD,h];rfl
theorem done_none {ms:List M4}{ws:Wq}{j w i:Nat}(h:ws.length<=i):dz ms ws j w i=false:=by unfold dz;rw [List.getElem?_eq_none h]
theorem qC (ws:List (Addr×Nat×Int)):(wq ws).length=ws.length:=zA _
theorem sF {r:List Int}{x:Int}{i:Nat}(h:i < r.length):(r++[x]).getD i 0=r.getD i 0:=by rw [zV,zV,zi h]
theorem QF {r:List Int}{x:Int}:(r++[x]).getD r.length 0=x:=by rw [zV,zY (zE _),Nat.sub_self];rfl
theorem jS {ms:List M4}{ws:Wq}{j w s:Nat}{F:Option (Nat->Nat->Int)}{r:List Int}{x:Int}(lr:r.length=s)(hs:s < 2 ^ ws.length)
  (old:∀ s',s' < s->(aC ms ws j w s'=s'->dB ms j F w s' (r.getD s' 0))/\r.getD s' 0=r.getD (aC ms ws j w s') 0) (n1:aC ms ws j w s=s->dB ms j F w s x) (n2:aC ms ws j w s≠s->x=r.getD (aC ms ws j w s) 0) :
  ∀ s',s' < s + 1->(aC ms ws j w s'=s'->dB ms j F w s' ((r++[x]).getD s' 0))/\(r++[x]).getD s' 0=(r++[x]).getD (aC ms ws j w s') 0:=λs' h=>by
 by_cases e:s'=s
 ·subst e;have le:=(wW (ms:=ms) (ws:=ws) (j:=j) (w:=w) hs).le;have g:(r++[x]).getD s' 0=x:=by rw [<-lr];exact QF
  rw [g];refine ⟨n1,?_⟩;by_cases e1:aC ms ws j w s'=s'
  ·rw [e1,g]
  ·rw [sF (by omega)];exact n2 e1
 ·have NW:s' < s:=by omega
  have le:=(wW (ms:=ms) (ws:=ws) (j:=j) (w:=w) (Nat.lt_trans NW hs)).le;have:=old s' NW;rw [sF (by omega),sF (by omega)];exact this
structure MC (H0 H:Hp) (lp:Addr) (sz:Nat) (ms:List M4) (ws:Wq) (j:Nat) (F:Option (Nat->Nat->Int)) (B:List ou):Prop where
 row:∀ b∈B,H b.1=some (.lst (b.2.map V.int))/\b.2.length=sz/\H0 b.1=none/\b.1≠lp
 dp:∀ w b,B[w]?=some b->je ms ws j F w λs=>b.2.getD s 0
theorem MC.same {H0 H H':Hp}{lp:Addr}{sz:Nat}{ms:List M4}{ws:Wq}{j:Nat}{F:Option (Nat->Nat->Int)}{B:List ou}(h:MC H0 H lp sz ms ws j F B)(s:au H H'):MC H0 H' lp sz ms ws j F B:=
 ⟨λb hb=>⟨s _ _ (h.row b hb).1,(h.row b hb).2⟩,h.dp⟩
theorem MC.nil {H0 H:Hp}{lp:Addr}{sz:Nat}{ms:List M4}{ws:Wq}{j:Nat}{F:Option (Nat->Nat->Int)}:MC H0 H lp sz ms ws j F []:=⟨(λ_ z=>nomatch z),(λ_ _ z=>nomatch z)⟩
theorem dY {α:Type}{A:List α}{a:α}{k:Nat}{x:α}(h:(A++[a])[k]?=some x):(k < A.length/\A[k]?=some x)\/(k=A.length/\x=a):=by
 by_cases l:k < A.length
 ·rw [zi l] at h;exact .inl ⟨l,h⟩
 ·rw [zY (by omega)] at h;have:k - A.length=0:=by
   by_cases e:k - A.length=0
   ·exact e
   ·rw [List.getElem?_eq_none (by simp only [yV];omega)] at h;cases h
  rw [this] at h;simp at h;exact .inr ⟨by omega,h.symm⟩
theorem MC.snoc {H0 H:Hp}{lp:Addr}{sz:Nat}{ms:List M4}{ws:Wq}{j:Nat}{F:Option (Nat->Nat->Int)}{B:List ou}(h:MC H0 H lp sz ms ws j F B){l:Addr}{r:List Int}(h1:H l=some (.lst (r.map V.int)))(h2:r.length=sz)(h3:H0 l=none)(h4:l≠lp)(d:je ms ws j F B.length λs=>r.getD s 0):MC H0 H lp sz ms ws j F (B++[(l,r)]):=by
 refine ⟨λb hb=>?_,λw b hb=>?_⟩
 ·rcases zT.mp hb with m | m
  ·exact h.row b m
  ·cases zP.mp m;exact ⟨h1,h2,h3,h4⟩
 ·rcases dY hb with ⟨_,k⟩ | ⟨rfl,rfl⟩
  ·exact h.dp w b k
  ·exact d
structure gR (H0 H:Hp) (lp:Addr) (W sz:Nat) (ms:List M4) (ws:Wq) (A:List cJ) (i:Nat):Prop where
 top:H lp=some (.lst (A.map λa=>V.ref a.1))
 str:∀ a∈A,H a.1=some (.lst (a.2.map λb=>V.ref b.1))/\a.2.length=W/\H0 a.1=none/\a.1≠lp
 row:∀ a∈A,∀ b∈a.2,H b.1=some (.lst (b.2.map V.int))/\b.2.length=sz/\H0 b.1=none/\b.1≠lp
 len:A.length=i
 dp:∀ k,k < i->∀ w,w < W->je ms ws (ms.length - k) (if k=0 then none else some (bg (aD A) (k - 1))) w (bg (aD A) k w)
theorem gR.same {H0 H H':Hp}{lp:Addr}{W sz:Nat}{ms:List M4}{ws:Wq}{A:List cJ}{i:Nat}(h:gR H0 H lp W sz ms ws A i)(s:au H H'):gR H0 H' lp W sz ms ws A i:=
 ⟨s _ _ h.top,λa ha=>⟨s _ _ (h.str a ha).1,(h.str a ha).2⟩,λa ha b hb=>⟨s _ _ (h.row a ha b hb).1,(h.row a ha b hb).2⟩,h.len,h.dp⟩
theorem dO {A:List cJ}{k:Nat}{a:cJ}(h:A[k]?=some a):bg (aD A) k=λw s=>((a.2.map (·.2)).getD w []).getD s 0:=by funext w s;unfold bg aD;rw [zV (l:=A.map _),zD,h];rfl
theorem jb {A:List cJ}{a:cJ}{k:Nat}(h:k < A.length):bg (aD (A++[a])) k=bg (aD A) k:=by obtain ⟨x,hx⟩:∃ x,A[k]?=some x:=⟨_,zF h⟩;rw [dO hx,dO (by rw [zi h];exact hx)]
theorem gR.snoc {H0 H H':Hp}{lp:Addr}{W sz:Nat}{ms:List M4}{ws:Wq}{A:List cJ}{i:Nat}(h:gR H0 H lp W sz ms ws A i){la:Addr}{B:List ou}{F:Option (Nat->Nat->Int)}
  (bt:∀ c u,c≠lp->H c=some u->H' c=some u) (top:H' lp=some (.lst (A.map (λa=>V.ref a.1)++[V.ref la]))) (k:H' la=some (.lst (B.map λb=>V.ref b.1))) (f0:H0 la=none) (ne:la≠lp) (lB:B.length=W) (rB:MC H0 H' lp sz ms ws (ms.length - i) F B)
  (eF:F=if i=0 then none else some (bg (aD A) (i - 1))):gR H0 H' lp W sz ms ws (A++[(la,B)]) (i + 1):=by
 have li:=h.len;refine ⟨by rw [top,zG];rfl,λa ha=>?_,λa ha b hb=>?_,by rw [zN,li];rfl,λk' SO w hw=>?_⟩
 ·rcases zT.mp ha with m | m
  ·have:=h.str a m;exact ⟨bt _ _ this.2.2.2 this.1,this.2⟩
  ·cases zP.mp m;exact ⟨k,lB,f0,ne⟩
 ·rcases zT.mp ha with m | m
  ·have:=h.row a m b hb;exact ⟨bt _ _ this.2.2.2 this.1,this.2⟩
  ·cases zP.mp m;exact rB.row b hb
 ·by_cases e:k'=i
  ·subst e;obtain ⟨b,hb⟩:∃ b,B[w]?=some b:=⟨_,zF (by omega)⟩;have d:=rB.dp w b hb;have e1:bg (aD (A++[(la,B)])) k' w=λs=>b.2.getD s 0:=by
    rw [dO (a:=(la,B)) (by rw [zY (by omega),li,Nat.sub_self];rfl)];funext s;simp only [zV,zD,hb,yf,Option.getD_some]
   rw [e1];rw [eF] at d;by_cases z:k'=0
   ·rw [if_pos z] at d ⊢;exact d
   ·rw [if_neg z] at d ⊢;rw [jb (by omega)];exact d
  ·have:=h.dp k' (by omega) w hw;rw [jb (k:=k') (by omega)];by_cases z:k'=0
   ·rw [if_pos z] at this ⊢;exact this
   ·rw [if_neg z] at this ⊢;rw [jb (by omega)];exact this
theorem gR.fol {H0 H:Hp}{lp:Addr}{W sz:Nat}{ms:List M4}{ws:Wq}{A:List cJ}{i:Nat}(h:gR H0 H lp W sz ms ws A (i + 1)):∃ a,A[i]?=some a/\kR H (.ref a.1) W sz (some (bg (aD A) i)):=by obtain ⟨a,ha⟩:∃ a,A[i]?=some a:=⟨_,zF (by rw [h.len];omega)⟩;have m:=zB ha;refine ⟨a,ha,.inr ⟨a.1,a.2,rfl,(h.str a m).1,(h.str a m).2.1,λb hb=>⟨(h.row a m b hb).1,(h.row a m b hb).2.1⟩,?_⟩⟩;rw [dO ha]
theorem kM {A:List cJ}{n j:Nat}(l:A.length=n + 1)(h:j<=n):bg (aD A.reverse) j=bg (aD A) (n - j):=by obtain ⟨x,hx⟩:∃ x,A[n - j]?=some x:=⟨_,zF (by omega)⟩;rw [dO hx,dO (a:=x) (by rw [List.getElem?_reverse (by omega),l];rw [show n + 1 - 1 - j=n - j by omega];exact hx)]
theorem gR.done {H0 H:Hp}{lp:Addr}{W:Nat}{ms:List M4}{ws:Wq}{A:List cJ}(gd:Good W ms)(h:gR H0 H lp W (2 ^ ws.length) ms ws A (ms.length + 1)):dh ms (bg (aD A.reverse)) W ws:=by
 refine ⟨λw hw=>?_,λj hj w hw=>?_⟩
 ·have:=h.dp 0 (by omega) w hw;rw [if_pos rfl,Nat.sub_zero] at this;rw [kM h.len (zE _),Nat.sub_self];exact this
 ·have:=h.dp (ms.length - j) (by omega) w hw;rw [if_neg (by omega),show ms.length - (ms.length - j)=j by omega,show ms.length - j - 1=ms.length - (j + 1) by omega] at this;rw [kM h.len (by omega),kM h.len (by omega)];exact this
theorem gR.pr {H0 H H':Hp}{lp lq:Addr}{W:Nat}{ms:List M4}{ws:Wq}{A:List cJ}(gd:Good W ms)(h:gR H0 H lp W (2 ^ ws.length) ms ws A (ms.length + 1))(s:au H H')(top:H' lq=some (.lst (A.reverse.map λa=>V.ref a.1))):gQ H' lq ms.length W (2 ^ ws.length) A.reverse:=by have D:=h.done gd;refine ⟨top,λa ha=>s _ _ (h.str a (yP.mp ha)).1,λa ha b hb=>s _ _ (h.row a (yP.mp ha) b hb).1,by rw [yk,h.len],λa ha=>(h.str a (yP.mp ha)).2.1,λa ha b hb=>(h.row a (yP.mp ha) b hb).2.1,λa ha b hb x hx=>?_⟩;obtain ⟨j,hj⟩:=yA.mp ha;obtain ⟨w,hw⟩:=yA.mp hb;obtain ⟨k,hk⟩:=yA.mp hx;have lb:=(h.row a (yP.mp ha) b hb).2.1;have j1:=(zC.mp hj).1;have w1:=(zC.mp hw).1;have k1:=(zC.mp hk).1;rw [yk,h.len] at j1;rw [(h.str a (yP.mp ha)).2.1] at w1;have:=D.nonneg gd (ms.length - j) j (by omega) w w1 k (by omega);rw [wj hj hw,sH hk] at this;exact this
theorem ja {xs:List V}{n:Nat}{x:V}(l:xs.length=n + 1)(h:xs[n]?=some x):dI xs (-1)=some x:=by
 have e:xs=xs.take n++[x]:=by rw [<-wM h,<- l,zv]
 rw [e];exact L2.Mx _ _
theorem gR.via {K:PySem.W.Frag}{H0 H:Hp}{lp:Addr}{W sz:Nat}{ms:List M4}{ws:Wq}{A:List cJ}{i:Nat}{σ:St}(h:gR H0 H lp W sz ms ws A i)(hs:σ[2]?=some (some (.ref lp))):∃ v F,kR H v W sz F/\F=(if i=0 then none else some (bg (aD A) (i - 1))) /\
  ∀ Q:VK,Q v H->if (!(A.map λa=>V.ref a.1).isEmpty)=true then M6 (rR K) (qY 2) (Pb (rU λi=>V.int (-i)) (tC (V.int 1))) σ H Q else tC V.bD σ H Q:=by
 cases i with
 | zero=>
  have:A=[]:=List.length_eq_zero_iff.mp h.len;subst this;exact ⟨.bD,none,.inl ⟨rfl,rfl⟩,rfl,λQ q=>by rw [if_neg (λz=>nomatch z)];exact q⟩
 | succ i=>
  obtain ⟨a,ha,fo⟩:=h.fol;refine ⟨_,_,fo,by rw [if_neg (Nat.succ_ne_zero _)];rfl,λQ q=>?_⟩;have:(!(A.map λa=>V.ref a.1).isEmpty)=true:=by
   cases A with
   | nil=>cases ha
   | cons _ _=>rfl
  rw [if_pos this];exact ⟨_,hs,_,rfl,lp,_,_,_,rfl,rfl,aG.of h.top,ja (n:=i) (by rw [zA,h.len]) (by rw [zD,ha];rfl),q⟩
end Sm
namespace L2
open PySem PySem.Spec PyProof.Rows
theorem MZ {c:TT}{tb:TS}{D:Ends}{σ:St}{H:Hp}{m0:Nat}(Pv:Nat->St->Hp->Prop)(h0:Pv m0 σ H)
  (hs:∀ m σ H,Pv m σ H->c σ H λb H1=>if b=true then tb (D.lp fun bu H'=>∃ m',m' < m/\Pv m' bu H') σ H1 else D.nx σ H1)
  (mono:∀ σ H Q Q',(∀ b H1,Q b H1->Q' b H1)->c σ H Q->c σ H Q'):jL c tb D σ H:=by
 refine ⟨Pv,⟨_,h0⟩,?_⟩;intro m σ H p;refine mono σ H _ _ (λb H1 q=>?_) (hs m σ H p);cases b with
 | true=>exact ⟨_,fun bu H' h=>h,q⟩
 | false=>exact q
theorem Yj {i:Nat}{x:V}{σ:St}{H:Hp}{D:Ends}{c:TT}{tb u:TS}(h:jL c tb (D.go (u D)) (σ.set i (some x)) H):ki i x σ H (D.go (qZ (jL c tb) u D)).nx:=h
end L2
namespace Sm
open PySem L2 aR
theorem aL.iG {T:Addr}{lp:Pos}{q:Str}{H H':Hp}{b tr tm:Addr}{aa:List Int}{ps:List (Addr×M4)}(h:aL H b aa tr tm ps)(m:MT T lp q H)(bt:cL T H H'):aL H' b aa tr tm ps:=h.aQ (MT.Ku m bt)
theorem cD {T:Addr}{lp:Pos}{q:Str}{H H':Hp}{a:Addr}{xs:List V}(m:MT T lp q H)(bt:cL T H H')(k:H a=some (.lst xs)):H' a=some (.lst xs):=bt _ _ (m.Lm k) k
theorem jK {T:Addr}{lp:Pos}{q:Str}{H H':Hp}{a:Addr}{xs:List V}(m:MT T lp q H)(bt:cL T H H')(k:H a=some (.tup xs)):H' a=some (.tup xs):=bt _ _ (m.rY k) k
theorem c6.iG {T:Addr}{lp:Pos}{q:Str}{H H':Hp}{l:Addr}{n:Nat}{ws:List (Addr×Nat×Int)}(h:c6 H l n ws)(m:MT T lp q H)(bt:cL T H H'):c6 H' l n ws:=
 ⟨cD m bt h.1,λx hx=>⟨jK m bt (h.2 x hx).1,(h.2 x hx).2⟩⟩
theorem gQ.iG {T:Addr}{p0:Pos}{q:Str}{H H':Hp}{l:Addr}{nm w sz:Nat}{P:List cJ}(h:gQ H l nm w sz P)(m:MT T p0 q H)(bt:cL T H H'):gQ H' l nm w sz P:=
 ⟨cD m bt h.top,λa ha=>cD m bt (h.str a ha),λa ha b hb=>cD m bt (h.row a ha b hb),h.len,h.tw,h.KS,h.pos⟩
theorem dQ.iG {T:Addr}{p0:Pos}{q:Str}{H H':Hp}{b l lp:Addr}{aa:List Int}{tr tm:Addr}{ps:List (Addr×M4)}{ws:List (Addr×Nat×Int)}{P:List cJ}(h:dQ H b l lp aa tr tm ps ws P)(m:MT T p0 q H)(bt:cL T H H'):dQ H' b l lp aa tr tm ps ws P:=
 ⟨h.bk.iG m bt,h.gd,h.r1,h.u0,h.wa.iG m bt,h.w1,h.w4,h.pr.iG m bt⟩
theorem dQ.cb {H:Hp}{b l lp:Addr}{aa:List Int}{tr tm:Addr}{ps:List (Addr×M4)}{ws:List (Addr×Nat×Int)}{P:List cJ}(h:dQ H b l lp aa tr tm ps ws P):oA H b l aa tr tm ps ws:=⟨h.bk,h.gd,h.r1,h.u0,h.wa,h.w4⟩
theorem cL.K2 {p l:Addr}{H H':Hp}{o:HO}(b:cL p H H')(h:H l=none):cL p H (upd H' l o):=λc u n e=>by rw [xX (xT e h)];exact b c u n e
theorem cL.rQ {p:Addr}{H H1 H2:Hp}(b:cL p H H1)(s:au H1 H2):cL p H H2:=λc u n e=>s c u (b c u n e)
theorem LU {T:Addr}{p0:Pos}{q:Str}{H H':Hp}(m:MT T p0 q H')(b:cL T H H'){l:Addr}(h:H' l=none):H l=none:=by
 cases e:H l with
 | none=>rfl
 | some o=>
  have:l≠T:=by
   rintro rfl;rcases m with m | ⟨_,m,_⟩ <;> (rw [h] at m;cases m)
  rw [b _ _ this e] at h;cases h
theorem au.ux {p:Addr}{H H1:Hp}(s:au H H1):cL p H H1:=λc u _ e=>s c u e
def kQ (H:Hp)(ps:List (Addr×eZ)):Prop:=∀ x∈ps,H x.1=some (.tup [.int (x.2.1:Int),.int (x.2.2.1:Int),.int (x.2.2.2:Int)])
def jt (H:Hp)(ps:List (Addr×Nat×Nat)):Prop:=∀ x∈ps,H x.1=some (.tup [.int (x.2.1:Int),.int (x.2.2:Int)])
section
variable {T:Addr} {gb:Pos} {H0 H H':Hp}{lg lq:Addr}{ms:List M4}{Vv:Nat->Nat->Nat->Int}{W:Nat}{ws:Wq}{v:Nat}{a:Int}{G:List (Addr×Nat×Nat)}{Qs:List (Addr×eZ)}
theorem pC (h:kQ H Qs){l:Addr}{o:HO}{xs:List V}(k:H l=some (.lst xs)):kQ (upd H l o) Qs:=λx hx=>by
 rw [xX (bY (h x hx) k (by intro z;cases z))];exact h x hx
theorem p6 (h:jt H G){l:Addr}{o:HO}{xs:List V}(k:H l=some (.lst xs)):jt (upd H l o) G:=λx hx=>by
 rw [xX (bY (h x hx) k (by intro z;cases z))];exact h x hx
theorem jt.aQ (h:jt H G)(t:bC H H'):jt H' G:=λx hx=>t _ _ (h x hx)
theorem kQ.aQ (h:kQ H Qs)(t:bC H H'):kQ H' Qs:=λx hx=>t _ _ (h x hx)
structure fM (T:Addr) (gb:Pos) (H0 H:Hp) (lg lq:Addr) (G:List (Addr×Nat×Nat)) (Qs:List (Addr×eZ)):Prop where
 bt:cL T H0 H
 mt:MT T gb jy H
 fg:H0 lg=none
 fq:H0 lq=none
 ne:lg≠lq
 kg:H lg=some (.lst (G.map λx=>V.ref x.1))
 kq:H lq=some (.lst (Qs.map λx=>V.ref x.1))
 pg:jt H G
 pq:kQ H Qs
theorem fM.same (h:fM T gb H0 H lg lq G Qs)(s:au H H'):fM T gb H0 H' lg lq G Qs:=
 ⟨h.bt.rQ s,h.mt.cW s,h.fg,h.fq,h.ne,s _ _ h.kg,s _ _ h.kq,h.pg.aQ (bC.same s),h.pq.aQ (bC.same s)⟩
theorem fM.but (h:fM T gb H0 H lg lq G Qs)(b:cL T H H')(m:MT T gb jy H'):fM T gb H0 H' lg lq G Qs:=
 ⟨h.bt.trans b,m,h.fg,h.fq,h.ne,cD h.mt b h.kg,cD h.mt b h.kq,h.pg.aQ (MT.Ku h.mt b),h.pq.aQ (MT.Ku h.mt b)⟩
theorem fM.RT {Q':List (Addr×eZ)}(h:fM T gb H0 H lg lq G Qs)(p:kQ H Q'):fM T gb H0 (upd H lq (.lst (Q'.map λx=>V.ref x.1))) lg lq G Q':=
 ⟨h.bt.K2 h.fq,h.mt.put h.kq,h.fg,h.fq,h.ne,by rw [xX h.ne];exact h.kg,xS,p6 h.pg h.kq,pC p h.kq⟩
theorem fM.QW (h:fM T gb H0 H lg lq G Qs){t:Addr}{x:eZ}(k:H t=some (.tup [.int (x.1:Int),.int (x.2.1:Int),.int (x.2.2:Int)])):fM T gb H0 (upd H lq (.lst ((Qs.map λx=>V.ref x.1)++[V.ref t]))) lg lq G (Qs++[(t,x)]):=by
 have:=h.RT (Q':=Qs++[(t,x)]) λy hy=>by
  rcases zT.mp hy with m | m
  ·exact h.pq y m
  ·cases zP.mp m;exact k
 rw [zG] at this;exact this
theorem fM.Yk (h:fM T gb H0 H lg lq G Qs){t:Addr}{x:Nat×Nat}(k:H t=some (.tup [.int (x.1:Int),.int (x.2:Int)])):fM T gb H0 (upd H lg (.lst ((G.map λx=>V.ref x.1)++[V.ref t]))) lg lq (G++[(t,x)]) Qs:=by
 refine ⟨h.bt.K2 h.fg,h.mt.put h.kg,h.fg,h.fq,h.ne,by rw [xS,zG];rfl,by rw [xX (Ne.symm h.ne)];exact h.kq,?_,pC h.pq h.kg⟩;have:jt H (G++[(t,x)]):=λy hy=>by
  rcases zT.mp hy with m | m
  ·exact h.pg y m
  ·cases zP.mp m;exact k
 exact p6 this h.kg
end
theorem QE {ms:List M4}{Vv:Nat->Nat->Nat->Int}{W:Nat}{ws:Wq}(D:dh ms Vv W ws){j w s:Nat}(lt:j < ms.length)(hw:w < W)(hs:s < 2 ^ ws.length)(z:aC ms ws j w s≠0)(ne:Vv j w (aC ms ws j w s)≠Vv (j + 1) w (aC ms ws j w s)) :
  ∃ o t,cK ms j w o t/\∀ p,bA p (aC ms ws j w s)->(∀ p',bA p' (aC ms ws j w s)->Vv (j + 1) w p + Vv (j + 1) o (aC ms ws j w s - p)<=Vv (j + 1) w p' + Vv (j + 1) o (aC ms ws j w s - p'))->Vv j w (aC ms ws j w s)=1 + Vv (j + 1) w p + Vv (j + 1) o (aC ms ws j w s - p):=by
 obtain ⟨F,hF,hN,l⟩:=D.row (xK lt) hw hs;have e:=D.eq (xK lt) hw hs;rcases l with ⟨z',_⟩ | ⟨_,l⟩
 ·exact absurd z' z
 ·cases F with
  | none=>have:=hN rfl;omega
  | some F=>
   obtain ⟨_,rfl⟩:=hF _ rfl;rcases l with ⟨_,l⟩ | ⟨o,t,k,_,l,c⟩
   ·omega
   ·refine ⟨o,t,k,λp sp mn=>?_⟩;have l1:=l p sp;rcases c with c | ⟨p',Wf,c⟩
    ·omega
    ·have:=mn p' Wf;omega
theorem Wu (n j:Nat)(h:j < n):3 ^ (n - j)=3 * 3 ^ (n - (j + 1)):=by rw [show n - j=n - (j + 1) + 1 by omega,Nat.pow_succ,Nat.mul_comm]
theorem rT {α β:Type}{f:α->β}{l l':List β}(p:l.Perm l'):∀ xs:List α,l'=xs.map f->∃ ys:List α,ys.Perm xs/\l=ys.map f:=by
 induction p with
 | nil=>intro xs e;cases xs with
  | nil=>exact ⟨[],.refl _,rfl⟩
  | cons _ _=>cases e
 | cons x p ih=>intro xs e;cases xs with
  | nil=>cases e
  | cons y xs=>
   rw [zf] at e;cases e;obtain ⟨ys,h1,rfl⟩:=ih xs rfl;exact ⟨y::ys,h1.cons _,rfl⟩
 | swap x y l=>intro xs e;match xs,e with
  | u::v::xs,e=>rw [zf,zf] at e;cases e;exact ⟨v::u::xs,.swap _ _ _,rfl⟩
 | trans p q ih1 ih2=>
  intro xs e;obtain ⟨ys,h1,e1⟩:=ih2 xs e;obtain ⟨zs,h2,e2⟩:=ih1 ys e1;exact ⟨zs,h2.trans h1,e2⟩
theorem Pa {G:List (Addr×Nat×Nat)}{qs:List (Addr×List Int)}(p:qs.Perm (G.map λx=>(x.1,[(x.2.1:Int),(x.2.2:Int)])))(s:qs.Pairwise λa b=>lx b.2 a.2=false){T:List (Nat×Nat)}(pt:T.Perm (G.map (·.2)))(tp:T.Pairwise λx y=>x.1 < y.1) :
  ∃ Tl:List (Addr×Nat×Nat),Tl.Perm G/\qs=(Tl.map λx=>(x.1,[(x.2.1:Int),(x.2.2:Int)]))/\Tl.map (·.2)=T:=by
 obtain ⟨Tl,pm,rfl⟩:=rT p G rfl;refine ⟨Tl,pm,rfl,?_⟩;have s':(Tl.map (·.2)).Pairwise λx y:Nat×Nat=>lx [(y.1:Int),(y.2:Int)] [(x.1:Int),(x.2:Int)]=false:=by
  rw [yz] at s ⊢;exact s
 refine List.Perm.eq_of_pairwise (le:=λx y:Nat×Nat=>lx [(y.1:Int),(y.2:Int)] [(x.1:Int),(x.2:Int)]=false) (λa b _ _ x y=>?_) s' (tp.imp λ{x y} h=>?_) ((pm.map _).trans pt.symm)
 ·have:=r9 y x;obtain ⟨a1,a2⟩:=a;obtain ⟨b1,b2⟩:=b;simp only [List.cons.injEq,and_true] at this;rw [Prod.mk.injEq];omega
 ·unfold lx;rw [if_neg (by omega)];exact decide_eq_false (by omega)
theorem gQ.get {H:Hp}{l:Addr}{nm w sz:Nat}{P:List cJ}(h:gQ H l nm w sz P){j k:Nat}(hj:j<=nm)(hk:k < w):∃ a b,P[j]?=some a/\a.2[k]?=some b/\a∈P/\b∈a.2/\b.2.length=sz/\∀ s,b.2.getD s 0=bg (aD P) j k s:=by obtain ⟨a,ha⟩:∃ a,P[j]?=some a:=⟨_,zF (by rw [h.len];omega)⟩;have ma:=zB ha;obtain ⟨b,hb⟩:∃ b,a.2[k]?=some b:=⟨_,zF (by rw [h.tw a ma];exact hk)⟩;have mb:=zB hb;exact ⟨a,b,ha,hb,ma,mb,h.KS a ma b mb,λs=>(wj ha hb).symm⟩
def kO (Qs:List (Addr×eZ)):Prop:=∀ (i:Nat) x,Qs[i]?=some x->i<=x.2.1 + 1
theorem kO.pop {Q0:List (Addr×eZ)}{x:Addr×eZ}(h:kO (Q0++[x])):kO Q0/\Q0.length<=x.2.1 + 1:=
 ⟨λi y hy=>h i y (by rw [zi (zC.mp hy).1];exact hy),h _ _ (by rw [zY (zE _),Nat.sub_self];rfl)⟩
theorem kO.push {Q0:List (Addr×eZ)}{x:Addr×eZ}(h:kO Q0)(l:Q0.length<=x.2.1 + 1):kO (Q0++[x]):=λi y hy=>by
 rcases dY hy with ⟨_,k⟩ | ⟨rfl,rfl⟩
 ·exact h i y k
 ·exact l
theorem bG.iN {ms:List M4}{Vv:Nat->Nat->Nat->Int}{W:Nat}{ws:Wq}{v:Nat}{a:Int}{G:List (Nat×Nat)}{ps:List eZ}{j w s:Nat}(e:bG ms Vv W ws v a G (ps++[(j,w,s)]))(D:dh ms Vv W ws)(gd:Good W ms)(C:Vv (cnt ms a) v (2 ^ ws.length - 1)<=ms.length):G.length<=ms.length:=by have h1:=e.sum;have h2:=e.jh D gd;obtain ⟨l1,l2,l3,_⟩:=e.last;have h3:=D.nonneg gd (ms.length - j) j (by omega) w l2 s l3;omega
theorem lK.YF {ms:List M4}{f h:Fn}{T:List (Nat×Nat)}:∀ {j:Nat},lK ms j f T h->lK ms 0 f T h
 | 0,t=>t
 | j + 1,t=>lK.YF t.lower
def oz (ws:List (Addr×Nat×Int)):Prop:=∀ x∈ws,0<=x.2.2/\x.2.2<=1000000000
def rC:Sp:=λvs H Q _=>∃ p b m aa tr tm ps,vs=[.ref p,.ref b,.int m]/\1<=m/\m<=4/\br H p/\aL H b aa tr tm ps/\Good aa.length (ps.map (·.2))/\1<=aa.length/\aa.length<=12 /\
 ∀ l ws H',Go p H H'->H l=none->l≠p->c6 H' l aa.length ws->oz ws->1<=ws.length->(ws.length:Int)<=m->Q (.ref l) H'
def kZ:Sp:=λvs H Q _=>∃ b,∃ k:Nat,∃ a lt aa tr tm ps Tl h,vs=[.ref b,.int (k:Int),.int a,.ref lt]/\aL H b aa tr tm ps/\Good aa.length (ps.map (·.2))/\aa.length<=12/\k < aa.length/\H lt=some (.lst (Tl.map λx=>V.ref x.1))/\jt H Tl/\lK (ps.map (·.2)) 0 (aE k a) (Tl.map (·.2)) h /\
 ∀ l H',au H H'->H' l=some (.lst ((rep aa.length h).map oV))->Q (.ref l) H'
def rE:Sp:=λvs H Q _=>∃ l lw n h ws,vs=[.ref l,.ref lw]/\H l=some (.lst ((rep n h).map oV))/\c6 H lw n ws/\ws.length<=4/\bR h (wq ws)/\∀ H',au H H'->Q (.bl true) H'
def uP:Sp:=λvs H Q _=>∃ b,∃ k:Nat,∃ a lw aa tr tm ps ws,vs=[.ref b,.int (k:Int),.int a,.ref lw]/\aL H b aa tr tm ps/\Good aa.length (ps.map (·.2))/\aa.length<=12/\k < aa.length/\c6 H lw aa.length ws/\ws.length<=4 /\
 (∀ i,fY (ps.map (·.2)) k a (wq ws) i->∀ H',au H H'->Q (.int ((i:Nat):Int)) H')/\(bR (fwd (ps.map (·.2)) (aE k a)) (wq ws)->∀ H',au H H'->Q .bD H')
theorem rX {ms:List M4}{k:Nat}{a:Int}{ws:Wq}{i j:Nat}(h:fY ms k a ws i)(h':fY ms k a ws j):i=j:=by
 obtain ⟨⟨x,hx,ex⟩,l⟩:=h;obtain ⟨⟨y,hy,ey⟩,m⟩:=h';by_cases e:i=j
 ·exact e
 ·by_cases c:i < j
  ·have:=m i c x hx;rw [ex] at this;cases this
  ·have:=l j (by omega) y hy;rw [ey] at this;cases this
theorem mh {ms:List M4}{k:Nat}{a:Int}{ws:Wq}{i:Nat}(h:fY ms k a ws i):¬ bR (fwd ms (aE k a)) ws:=λsv=>by
 obtain ⟨⟨x,hx,ex⟩,_⟩:=h;have:=sv i x hx;rw [ex] at this;cases this
theorem c6.bound {H:Hp}{l:Addr}{n:Nat}{ws:List (Addr×Nat×Int)}(wa:c6 H l n ws):∀ x∈wq ws,x.1 < n:=λx hx=>by
 obtain ⟨y,hy,rfl⟩:=zQ.mp hx;exact (wa.2 y hy).2
theorem sS {ms:List M4}{W:Nat}(gd:Good W ms){k w:Nat}{a z:Int}(n:bX (fwd ms (aE k a) w) z=false):uz ms k w a z (fwd ms (aE k a))=true:=by unfold uz;rw [p8,n,nU gd];simp [bX]
section
variable {T p:Addr} {gb:Pos} {H0 H H':Hp}{b lw tr tm:Addr}{aa:List Int}{ps:List (Addr×M4)}{ws:List (Addr×Nat×Int)}
end
def iK (H0 H:Hp)(t:Addr)(n:Nat)(ms:List M4)(k:Nat)(a:Int)(K:Nat)(ws:Wq):Prop:=
 (∃ i lt,H t=some (.tup [.str (Str.ofString "never"),.int ((i:Nat):Int),.ref lt])/\fY ms k a ws i/\H lt=some (.lst ((rep n (fwd ms (aE k a))).map oV))/\H0 lt=none) \/
 ∃ lt lp Tl h P,H t=some (.tup [.str (Str.ofString "tree"),.ref lt,.ref lp])/\bR (fwd ms (aE k a)) ws/\sX H lt ms k a ws Tl h/\gQ H lp ms.length n (2 ^ K) P/\dh ms (bg (aD P)) n ws/\(Tl.length:Int)=bg (aD P) (cnt ms a) k (2 ^ K - 1) /\
  (H0 lt=none/\H0 lp=none/\∀ a∈P,H0 a.1=none/\∀ b∈a.2,H0 b.1=none)/\lp≠lt/\∀ a∈P,a.1≠lt/\∀ b∈a.2,b.1≠lt
def o7 (T:Addr)(gb:Pos):Sp:=λvs H Q _=>∃ b,∃ k:Nat,∃ a l aa tr tm ps ws,vs=[.ref b,.int (k:Int),.int a,.ref l]/\oA H b l aa tr tm ps ws/\aa.length<=8/\ps.length<=24/\1<=ws.length/\k < aa.length/\0<=a/\a<=1000000000/\(∀ x∈ws,0<=x.2.2/\x.2.2<=1000000000)/\MT T gb jy H /\
 ∀ t H',cL T H H'->MT T gb jy H'->iK H H' t aa.length (ps.map (·.2)) k a ws.length (wq ws)->Q (.ref t) H'
theorem iK.old {H0 H:Hp}{t:Addr}{n:Nat}{ms:List M4}{k:Nat}{a:Int}{K:Nat}{ws:Wq}(h:iK H0 H t n ms k a K ws):Mz H t n ms k a K ws:=by
 rcases h with ⟨i,lt,h1,h2,h3,_⟩ | ⟨lt,lp,Tl,h,P,h1,h2,h3,h4,h5,h6,_⟩
 ·exact .inl ⟨i,lt,h1,h2,h3⟩
 ·exact .inr ⟨lt,lp,Tl,h,P,h1,h2,h3,h4,h5,h6⟩
def rF:Sp:=λvs H Q _=>∃ b,∃ k:Nat,∃ a lw t aa tr tm ps ws,vs=[.ref b,.int (k:Int),.int a,.ref lw,.ref t]/\aL H b aa tr tm ps/\Good aa.length (ps.map (·.2))/\1<=aa.length/\aa.length<=8/\k < aa.length/\0<=a/\a<=1000000000/\c6 H lw aa.length ws/\oz ws/\1<=ws.length/\ws.length<=4/\Mz H t aa.length (ps.map (·.2)) k a ws.length (wq ws) /\
 ∀ H',au H H'->Q (.bl true) H'
def qw (H:Hp):Nat->V->Prop
 | 0,_=>False
 | n + 1,x=>(∃ i,x=.int i)\/(∃ z,x=.str z)\/x=.bD\/∃ a xs,x=.ref a/\(H a=some (.lst xs)\/H a=some (.tup xs))/\xs.length<=100/\∀ y∈xs,qw H n y
theorem qw.same {H H':Hp}(s:au H H'):∀ {n:Nat}{x:V},qw H n x->qw H' n x
 | n + 1,x,h=>by
  rcases h with h | h | h | ⟨a,xs,e,h,l,r⟩
  ·exact .inl h
  ·exact .inr (.inl h)
  ·exact .inr (.inr (.inl h))
  ·exact .inr (.inr (.inr ⟨a,xs,e,h.imp (s _ _) (s _ _),l,λy hy=>(r y hy).same s⟩))
def fN (H:Hp):Nat->V->V->Prop
 | 0,_,_=>False
 | n + 1,x,y=>(x=y/\bO x=true)\/∃ a b xs ys,x=.ref a/\y=.ref b/\((H a=some (.lst xs)/\H b=some (.lst ys))\/(H a=some (.tup xs)/\H b=some (.tup ys)))/\xs.length=ys.length/\∀ (i:Nat) (x y:V),xs[i]?=some x->ys[i]?=some y->fN H n x y
theorem fN.same {H H':Hp}(s:au H H'):∀ {n:Nat}{x y:V},fN H n x y->fN H' n x y
 | n + 1,x,y,h=>by
  rcases h with h | ⟨a,b,xs,ys,e1,e2,h,l,r⟩
  ·exact .inl h
  ·exact .inr ⟨a,b,xs,ys,e1,e2,h.imp (λh=>⟨s _ _ h.1,s _ _ h.2⟩) (λh=>⟨s _ _ h.1,s _ _ h.2⟩),l,λi x y h1 h2=>(r i x y h1 h2).same s⟩
theorem fN.go {p:Addr}{H H':Hp}(m:∀ a xs,(H a=some (.lst xs)->H' a=some (.lst xs))/\(H a=some (.tup xs)->H' a=some (.tup xs))):∀ {n:Nat}{x y:V},fN H n x y->fN H' n x y
 | n + 1,x,y,h=>by
  rcases h with h | ⟨a,b,xs,ys,e1,e2,h,l,r⟩
  ·exact .inl h
  ·exact .inr ⟨a,b,xs,ys,e1,e2,h.imp (λh=>⟨(m _ _).1 h.1,(m _ _).1 h.2⟩) (λh=>⟨(m _ _).2 h.1,(m _ _).2 h.2⟩),l,λi x y h1 h2=>(r i x y h1 h2).go (p:=p) m⟩
theorem fN.deep {K:PySem.W.Frag}{H:Hp}:∀ {n:Nat}{x y:V},fN H n x y->Oi K H n x y
 | n + 1,x,y,h=>by
  rcases h with ⟨rfl,h⟩ | ⟨a,b,xs,ys,e1,e2,h,l,r⟩
  ·exact .inl ⟨rfl,.inl h⟩
  ·exact .inr ⟨a,b,xs,ys,e1,e2,h.imp (λh=>⟨aG.of h.1,aG.of h.2⟩) (λh=>⟨bq.of h.1,bq.of h.2⟩),l,λi x y h1 h2=>(r i x y h1 h2).deep⟩
def bW (p:Addr)(H:Hp):Hp:=λa=>if a=p then none else H a
theorem bB {p a:Addr}{H:Hp}{u:HO}:bW p H a=some u↔a≠p/\H a=some u:=by
 unfold bW;by_cases e:a=p
 ·rw [if_pos e];exact ⟨(λz=>by cases z),λz=>absurd e z.1⟩
 ·rw [if_neg e];exact ⟨λz=>⟨e,z⟩,λz=>z.2⟩
theorem au.bW {p:Addr}{H H':Hp}(s:au H H'):au (bW p H) (bW p H'):=λc u e=>by
 rw [bB] at e ⊢;exact ⟨e.1,s _ _ e.2⟩
theorem Go.bW {p:Addr}{H H':Hp}(g:Go p H H'):au (bW p H) (bW p H'):=λc u e=>by
 rw [bB] at e ⊢;exact ⟨e.1,g.1 _ _ e.1 e.2⟩
theorem fN.iG {T p:Addr}{p0:Pos}{q:Str}{H H':Hp}(m:MT T p0 q H)(bt:cL T H H'){n:Nat}{x y:V}(h:fN (bW p H) n x y):fN (bW p H') n x y:=
 h.go (p:=p) λa xs=>⟨λe=>by rw [bB] at e ⊢;exact ⟨e.1,cD m bt e.2⟩,λe=>by rw [bB] at e ⊢;exact ⟨e.1,jK m bt e.2⟩⟩
theorem fN.WH {K:PySem.W.Frag}{p:Addr}{H:Hp}{n:Nat}(hn:n<=20){t:Addr}{y:V}(h:fN (bW p H) (n + 1) (.ref t) y):TU K H (.ref t) y:=by
 have up:au (Sm.bW p H) H:=λc u e=>(bB.mp e).2;rcases h.same up with ⟨_,h⟩ | ⟨a,b,xs,ys,e1,e2,h,l,r⟩
 ·cases h
 ·exact ⟨n,hn,a,b,xs,ys,e1,e2,h.imp (λh=>⟨aG.of h.1,aG.of h.2⟩) (λh=>⟨bq.of h.1,bq.of h.2⟩),l,λi x y h1 h2=>(r i x y h1 h2).deep⟩
def gG (n:Nat):Sp:=λvs H Q _=>∃ x p,vs=[x]/\H p≠none/\qw (bW p H) n x/\∀ y H',au H H'->fN (bW p H') n x y->Q y H'
theorem lX {vs:List V}{H:Hp}{Q:VK}{E:XK}(h:gG 0 vs H Q E):False:=by obtain ⟨x,_,_,_,d,_⟩:=h;exact d
theorem rW {ms:List M4}{W sz:Nat}{H:Hp}{l:Addr}{P:List cJ}{ws:Wq}(pr:gQ H l ms.length W sz P)(F:dP ms (bg (aD P)) W ws.length ws):mY (aD P):=λst vB r hr=>by
 obtain ⟨a,ha,rfl⟩:=zQ.mp vB;obtain ⟨b,hb,rfl⟩:=zQ.mp hr;obtain ⟨j,hj⟩:=yA.mp ha;obtain ⟨w,hw⟩:=yA.mp hb;have j1:=(zC.mp hj).1;have w1:=(zC.mp hw).1;rw [pr.len] at j1;rw [pr.tw a ha] at w1;have:=F.zero j (by omega) w w1;rw [wj hj hw] at this;exact this
theorem NB {ms:List M4}{W:Nat}{V:gc}{ws:List (Addr×Nat×Int)}(F:dP ms (bg V) W (wq ws).length (wq ws)):MD ms V (2 ^ ws.length) ws:=λk x hx i hi s hs hb=>by
 have:=F.out k x.2 (by unfold wq;rw [zD,hx];rfl) i hi s (by rw [qC];exact hs) hb;exact this
theorem Lx {ms:List M4}{W:Nat}{V:gc}{ws:List (Addr×Nat×Int)}(F:dP ms (bg V) W (wq ws).length (wq ws)):uD V ms.length W (2 ^ ws.length):=λi hi j hj s hs=>F.keep i hi j hj s (by rw [qC];exact hs)
theorem LO {ms:List M4}{W:Nat}{V:gc}{ws:List (Addr×Nat×Int)}(F:dP ms (bg V) W (wq ws).length (wq ws)):f9 ms V (2 ^ ws.length):=λx hx s hs p lp ep=>by
 have sp:=cR.mp ep;obtain ⟨h1,h2,_⟩:=gH sp;have:=F.give x.n x.w.g x.w.o x.w.t (dR hx) p (s - p) h2 (by rw [h1,qC];exact hs);rw [h1] at this;exact this
structure gf (T:Addr) (gb:Pos) (p:Addr) (H0 H:Hp) (b:Addr) (aa:List Int) (tr tm:Addr) (ps:List (Addr×M4)) (lw lh:Addr) (ws:List (Addr×Nat×Int)):Prop where
 rel:cL T H0 H
 fp:H0 p=none
 pu:br H p
 mt:MT T gb jy H
 bk:aL H b aa tr tm ps
 wa:c6 H lw aa.length ws
 wh:c6 H lh aa.length ws
 n1:lw≠p
 n2:lh≠p
section
variable {T p:Addr} {gb:Pos} {H0 H H':Hp}{b lw lh tr tm:Addr}{aa:List Int}{ps:List (Addr×M4)}{ws:List (Addr×Nat×Int)}
theorem gf.go (h:gf T gb p H0 H b aa tr tm ps lw lh ws)(g:Go p H H'):gf T gb p H0 H' b aa tr tm ps lw lh ws:=
 ⟨λc u n e=>g.1 c u (xT e h.fp) (h.rel c u n e),h.fp,g.2,h.mt.go h.pu g,h.bk.aQ (g.aQ h.pu),h.wa.S9 h.pu h.n1 g,h.wh.S9 h.pu h.n2 g,h.n1,h.n2⟩
theorem gf.but (h:gf T gb p H0 H b aa tr tm ps lw lh ws)(bt:cL T H H')(m:MT T gb jy H'):gf T gb p H0 H' b aa tr tm ps lw lh ws:=
 ⟨h.rel.trans bt,h.fp,MT.R4 h.mt bt h.pu,m,h.bk.iG h.mt bt,h.wa.iG h.mt bt,h.wh.iG h.mt bt,h.n1,h.n2⟩
theorem gf.same (h:gf T gb p H0 H b aa tr tm ps lw lh ws)(s:au H H'):gf T gb p H0 H' b aa tr tm ps lw lh ws:=h.but (au.ux s) (h.mt.cW s)
theorem gf.put {G:Hp}{l:Addr}{xs:List V}{o:HO}(h:gf T gb p H0 H b aa tr tm ps lw lh ws)(g:gf T gb p H0 G b aa tr tm ps lw lh ws)(f:G l=none)(k:H l=some (.lst xs)):gf T gb p H0 (upd H l o) b aa tr tm ps lw lh ws:=by have f0:H0 l=none:=LU g.mt g.rel f;have tt:bC H (upd H l o):=bC.set k;obtain ⟨x,y,z,e⟩:=g.pu;obtain ⟨x',y',z',e'⟩:=h.pu;exact ⟨h.rel.K2 f0,h.fp,⟨x',y',z',by rw [xX (xT e f)];exact e'⟩,h.mt.put k,h.bk.aQ tt,⟨by rw [xX (xT g.wa.1 f)];exact h.wa.1,λx hx=>⟨tt _ _ (h.wa.2 x hx).1,(h.wa.2 x hx).2⟩⟩,⟨by rw [xX (xT g.wh.1 f)];exact h.wh.1,λx hx=>⟨tt _ _ (h.wh.2 x hx).1,(h.wh.2 x hx).2⟩⟩,h.n1,h.n2⟩
end
theorem KY {p:Addr}{H:Hp}{l:Addr}{xs:List Int}{n:Nat}(k:bW p H l=some (.lst (xs.map V.int)))(iN:xs.length<=100):qw (bW p H) (n + 2) (.ref l):=
 .inr (.inr (.inr ⟨l,_,rfl,.inl k,by rw [zA];exact iN,λy hy=>by
  obtain ⟨i,_,rfl⟩:=zQ.mp hy;exact .inl ⟨i,rfl⟩⟩))
theorem uJ {H0 H:Hp}{t p:Addr}{n:Nat}{ms:List M4}{k:Nat}{a:Int}{K:Nat}{ws:Wq}(h:iK H0 H t n ms k a K ws)(Uk:br H0 p)(pu:br H p)(gd:Good n ms)(hk:k < n)(n8:n<=8)(K4:K<=4)(eK:ws.length=K)(LD:∀ x∈ws,x.1 < n):qw (bW p H) 5 (.ref t):=by
 obtain ⟨u,v,w,e⟩:=Uk;have iN:=gd.iN;have Ov:=l5 K4;have text:∀ z m,qw (bW p H) (m + 1) (.str z):=λz m=>.inr (.inl ⟨z,rfl⟩);have tt:∀ {x:Addr}{xs:List V},H x=some (.tup xs)->bW p H x=some (.tup xs):=λk=>bB.mpr ⟨pu.tup k,k⟩;have ll:∀ {x:Addr}{xs:List V},H0 x=none->H x=some (.lst xs)->bW p H x=some (.lst xs):=λf k=>bB.mpr ⟨Ne.symm (xT e f),k⟩;rcases h with ⟨i,l1,h1,nv,h3,f⟩ | ⟨lt,lp,Tl,hh,P,h1,sv,h3,pr,dp,len,⟨f1,f2,f3⟩,_⟩
 ·refine .inr (.inr (.inr ⟨t,_,rfl,.inr (tt h1),by show 3<=100;decide,λy hy=>?_⟩));simp only [zK,zj,or_false] at hy;rcases hy with rfl | rfl | rfl
  ·exact text _ 3
  ·exact .inl ⟨_,rfl⟩
  ·refine .inr (.inr (.inr ⟨l1,_,rfl,.inl (ll f h3),by rw [zA,wg];omega,λy hy=>?_⟩));obtain ⟨o,_,rfl⟩:=zQ.mp hy;cases o with
   | none=>exact .inr (.inr (.inl rfl))
   | some i=>exact .inl ⟨i,rfl⟩
 ·have up:=m8 (dp.LX gd LD) gd hk sv;rw [eK] at up;refine .inr (.inr (.inr ⟨t,_,rfl,.inr (tt h1),by show 3<=100;decide,λy hy=>?_⟩));simp only [zK,zj,or_false] at hy;rcases hy with rfl | rfl | rfl
  ·exact text _ 3
  ·refine .inr (.inr (.inr ⟨lt,_,rfl,.inl (ll f1 h3.top),by rw [zA];omega,λy hy=>?_⟩));obtain ⟨x,hx,rfl⟩:=zQ.mp hy;refine .inr (.inr (.inr ⟨x.1,_,rfl,.inr (tt (h3.row x hx)),by show 2<=100;decide,λz hz=>?_⟩));simp only [zK,zj,or_false] at hz;rcases hz with rfl | rfl <;> exact .inl ⟨_,rfl⟩
  ·refine .inr (.inr (.inr ⟨lp,_,rfl,.inl (ll f2 pr.top),by rw [zA,pr.len];omega,λy hy=>?_⟩));obtain ⟨x,hx,rfl⟩:=zQ.mp hy;refine .inr (.inr (.inr ⟨x.1,_,rfl,.inl (ll (f3 x hx).1 (pr.str x hx)),by rw [zA,pr.tw x hx];omega,λz hz=>?_⟩));obtain ⟨r,hr,rfl⟩:=zQ.mp hz;exact KY (n:=0) (ll ((f3 x hx).2 r hr) (pr.row x hx r hr)) (by rw [pr.KS x hx r hr];omega)
theorem sf {n:Nat}(h:0 < n):vv n (-1)=some (n - 1):=by unfold vv;rw [if_neg (by omega),if_pos (by omega)];congr 1;omega
def Od (H0 H:Hp)(W nm sz:Nat)(s0:Str)(x1:V)(l3:Addr):Prop:=s0=Str.ofString "never" \/ (s0=Str.ofString "tree" /\ ∃ lt,∃ Tl:List (Addr×Nat×Nat),∃ P,x1=.ref lt/\H lt=some (.lst (Tl.map λx:Addr×Nat×Nat=>V.ref x.1))/\Tl.length<=60/\H0 lt=none/\gQ H l3 nm W sz P/\(∀ a∈P,H0 a.1=none/\∀ b∈a.2,H0 b.1=none)/\l3≠lt/\∀ a∈P,a.1≠lt/\∀ b∈a.2,b.1≠lt)
theorem qW {H0 H:Hp}{t:Addr}{n:Nat}{ms:List M4}{k:Nat}{a:Int}{K:Nat}{ws:Wq}(h:iK H0 H t n ms k a K ws)(gd:Good n ms)(hk:k < n)(eK:ws.length=K)(LD:∀ x∈ws,x.1 < n) :
  ∃ s0 x1 l3 xs,H t=some (.tup [.str s0,x1,.ref l3])/\H0 l3=none/\H l3=some (.lst xs)/\0 < xs.length/\Od H0 H n ms.length (2 ^ K) s0 x1 l3:=by
 have iN:=gd.iN;rcases h with ⟨i,l1,h1,nv,h3,f⟩ | ⟨lt,lp,Tl,hh,P,h1,sv,h3,pr,dp,len,⟨f1,f2,f3⟩,f4,f5⟩
 ·exact ⟨_,_,l1,_,h1,f,h3,by rw [zA,wg];omega,.inl rfl⟩
 ·have up:=m8 (dp.LX gd LD) gd hk sv;rw [eK] at up;exact ⟨_,_,lp,_,h1,f2,pr.top,by rw [zA,pr.len];omega,.inr ⟨rfl,lt,Tl,P,rfl,h3.top,by omega,f1,pr,f3,f4,f5⟩⟩
theorem nF:Str.ofString "never" ≠ Str.ofString "tree" := by decide
end Sm
namespace L2
open PySem
set_option genInjectivity false
set_option genSizeOf false
structure Bk (X:Cx) (b:List Stmt) where
 t:TS
 ps:mX X b t
theorem bT {X:Cx}{b:List Stmt}{R:TS->Prop}(h:let Y:=X;∃ t,mX Y b t/\R t):∃ t,mX X b t/\R t:=h
theorem Bk.bl {X:Cx}{a:Stmt}{rest:List Stmt}(B:Bk X (a::rest)):qq X (a::rest) B.t:=Mr B.ps
abbrev IV:=Nat->St->Hp->Prop
abbrev IC:=Nat->St->List V->Hp->Prop
def YG:Stmt:=.Pass ⟨0,0,0,0⟩
def nb (l:List Stmt)(i:Nat):List Stmt:=match l.getD i YG with
 | .If _ a _ _=>a
 | .For _ _ a _ _=>a
 | .While _ a _ _=>a
 | _=>[]
def ne (l:List Stmt)(i:Nat):List Stmt:=match l.getD i YG with
 | .If _ _ a _=>a
 | _=>[]
end L2
namespace Sm
open PySem L2
theorem bE:1002<=sizeLine:=by rw [sizeLine_eq];decide
end Sm


namespace L2
open PySem PySem.Spec PyProof.Rows
theorem bf {N P:List Str}{sc:Scope}(a:sc.kind=.function:=by rfl)(b:sc.isCoroutine=false:=by rfl)(c:sc.isGenerator=false:=by rfl)(d:N.Nodup:=by decide +kernel)(e:N.take P.length=P:=by rfl)(f:∀ x∈P,sc.names.lookup x=some .local∨sc.names.lookup x=some .cell:=by decide +kernel)(g:∀ y∈sc.names,y.2≠.free:=by decide +kernel):aA N P sc:=⟨a,b,c,d,e,f,g⟩
theorem i6 {o:List Str}{c:List Nat}{N:List Str}{s p:Scope}(k:p.kind=.function:=by rfl)(a:∀ y∈p.names,y.2≠.cell:=by decide +kernel)(l:∀ y∈p.names,y.2=.local->p.names.lookup y.1=some .local:=by decide +kernel)(f:∀ y∈p.names,y.2=.free->s.names.lookup y.1=some .cell∨s.names.lookup y.1=some .free:=by decide +kernel)(g:∀ i∈c,i < N.length∧p.names.lookup ((N[i]?).getD Str.empty)=some .free:=by decide +kernel):aM o c N s p:=⟨k,a,l,f,g⟩
end L2
namespace Sm
open PySem L2
def top (i:Nat):Stmt:=PySem.Challenge.pw_satchelmeet_k61_whole_tree_and_prices.main.body.getD i (.Pass ⟨0,0,0,0⟩)
abbrev wv:Stmt:=top 37
abbrev qE:Stmt:=top 38
abbrev Dl:Stmt:=top 39
abbrev ww:Stmt:=top 40
abbrev qF:Stmt:=top 41
abbrev xr:Stmt:=top 42
abbrev Cy:Stmt:=top 43
abbrev wQ:Stmt:=top 44
abbrev Dk:Stmt:=top 45
abbrev Ej:Stmt:=top 5
abbrev DO:Stmt:=top 6
abbrev EY:Stmt:=top 7
abbrev Ek:Stmt:=top 8
abbrev EX:Stmt:=top 9
abbrev DP:Stmt:=top 11
abbrev D4:Stmt:=top 12
abbrev EW:Stmt:=top 13
abbrev Ei:Stmt:=top 14
abbrev Dj:Stmt:=top 15
abbrev FJ:Stmt:=top 17
abbrev CS:Stmt:=top 18
abbrev EE:Stmt:=top 19
abbrev Cw:Stmt:=top 21
abbrev wN:Stmt:=top 25
abbrev Cf:Stmt:=top 23
abbrev wt:Stmt:=top 24
abbrev wx:Stmt:=top 32
abbrev C1:Stmt:=top 33
abbrev Dd:Stmt:=top 31
abbrev wX:Stmt:=top 30
abbrev CJ:Stmt:=top 35
abbrev wH:Stmt:=top 34
abbrev Cu:Stmt:=top 29
abbrev D5:Stmt:=top 47
abbrev wy:Stmt:=top 46
abbrev wb:Stmt:=top 48
abbrev xx:Stmt:=top 49
abbrev qB:Stmt:=top 50
abbrev wT:Stmt:=top 51
abbrev qG:Stmt:=top 52
abbrev CK:Stmt:=top 53
abbrev wR:Stmt:=top 54
abbrev wG:Stmt:=top 55
abbrev qK:Stmt:=top 56
abbrev wC:Stmt:=top 57
abbrev wK:Stmt:=top 58
abbrev Cv:Stmt:=top 59
def cu:Pos:=⟨130,33,130,76⟩
set_option genInjectivity false
set_option genSizeOf false
structure Ad where
 AG:Addr
 BD:FuncData
 AX:Addr
 BR:FuncData
 Bo:Addr
 Cm:FuncData
 AE:Addr
 BB:FuncData
 AY:Addr
 BS:FuncData
 Aj:Addr
 Ay:FuncData
 A3:Addr
 BU:FuncData
 AW:Addr
 BQ:FuncData
 AC:Addr
 Bz:FuncData
 Bl:Addr
 Cj:FuncData
 AT:Addr
 BN:FuncData
 BY:Addr
 CN:FuncData
 Bm:Addr
 Ck:FuncData
 BX:Addr
 CM:FuncData
 AU:Addr
 BO:FuncData
 BZ:Addr
 CO:FuncData
 D2:Addr
 Fa:FuncData
 Bi:Addr
 Ch:FuncData
 Bj:Addr
 Ci:FuncData
 CD:Addr
 Di:FuncData
 Am:Addr
 AR:FuncData
 CB:Addr
 Dg:FuncData
 AV:Addr
 BP:FuncData
 Ai:Addr
 Ax:FuncData
 Ag:Addr
 Au:FuncData
 Bn:Addr
 Cl:FuncData
 AA:Addr
 By:FuncData
 C2:Addr
 D6:FuncData
 CC:Addr
 Dh:FuncData
 An:Addr
 AS:FuncData
 AB:Addr
 Az:FuncData
 BW:Addr
 CL:FuncData
 Cz:Addr
 Df:FuncData
 Ca:Addr
 CP:FuncData
 AD:Addr
 BA:FuncData
 Ar:Addr
 Bf:FuncData
 Af:Addr
 Ao:FuncData
 As:Addr
 Bg:FuncData
 At:Addr
 Bh:FuncData
 AZ:Addr
 BT:FuncData
 AJ:Addr
 BG:FuncData
 AI:Addr
 BF:FuncData
 A4:Addr
 BV:FuncData
 AH:Addr
 BE:FuncData
 AF:Addr
 BC:FuncData
 Al:Addr
 AL:FuncData
 ET:Addr
 GW:FuncData
 tC:Addr
 tP:Addr
structure Tx (K:PySem.W.Frag) (mg:Str->Option Value) (a:Ad) (qp:Tok) (eY:Tok) (eL:Tok):Prop where
 Bb:aX K "_law_purse" "_law_purse" wv a.AG a.BD
 Dp:Binds K a.BD ["_law_script", "_law_k"] []
 Dm:mg "_law_purse" = some (.ref a.AG)
 Do:zI K (.ref a.AG)=true
 Bt:aX K "_law_take" "_law_take" qE a.AX a.BR
 Ae:Binds K a.BR ["_law_purse_here", "_law_many"] []
 Ab:mg "_law_take" = some (.ref a.AX)
 Ac:zI K (.ref a.AX)=true
 BM:aX K "_law_far" "_law_far" Dl a.Bo a.Cm
 Jk:Binds K a.Cm ["_law_purse_here"] []
 Ja:mg "_law_far" = some (.ref a.Bo)
 Jf:zI K (.ref a.Bo)=true
 A9:aX K "_law_rooms" "_law_rooms" ww a.AE a.BB
 Hi:Binds K a.BB ["_law_purse_here", "_law_walkers"] []
 G6:mg "_law_rooms" = some (.ref a.AE)
 Hc:zI K (.ref a.AE)=true
 Bu:aX K "_law_step" "_law_step" qF a.AY a.BS
 Iz:Binds K a.BS ["_law_purse_here"] []
 Ih:mg "_law_step" = some (.ref a.AY)
 Ip:zI K (.ref a.AY)=true
 Aq:aX K "_law_meetings" "_law_meetings" xr a.Aj a.Ay
 FA:Binds K a.Ay ["_law_purse_here", "_law_walkers", "_law_most"] []
 Fy:mg "_law_meetings" = some (.ref a.Aj)
 Fz:zI K (.ref a.Aj)=true
 Bw:aX K "_law_book" "_law_book" Cy a.A3 a.BU
 IB:Binds K a.BU ["_law_purse_here", "_law_most_walkers", "_law_most_meetings"] []
 Ij:mg "_law_book" = some (.ref a.A3)
 Ir:zI K (.ref a.A3)=true
 Bs:aX K "_law_time" "_law_time" wQ a.AW a.BQ
 DS:Binds K a.BQ ["_law_purse_here", "_law_book_here", "_law_later"] []
 DQ:mg "_law_time" = some (.ref a.AW)
 DR:zI K (.ref a.AW)=true
 A7:aX K "_law_whole" "_law_whole" Dk a.AC a.Bz
 Cd:Binds K a.Bz ["_law_thing"] []
 Cb:mg "_law_whole" = some (.ref a.AC)
 Cc:zI K (.ref a.AC)=true
 BJ:aX K "is_whole" "is_whole" Ej a.Bl a.Cj
 Jh:Binds K a.Cj ["thing"] []
 IX:mg "is_whole" = some (.ref a.Bl)
 Jc:zI K (.ref a.Bl)=true
 Bp:aX K "is_within" "is_within" DO a.AT a.BN
 Fs:Binds K a.BN ["thing", "least", "most"] []
 Fm:mg "is_within" = some (.ref a.AT)
 Fp:zI K (.ref a.AT)=true
 Cp:aX K "is_time" "is_time" EY a.BY a.CN
 GT:Binds K a.CN ["thing"] []
 GN:mg "is_time" = some (.ref a.BY)
 GQ:zI K (.ref a.BY)=true
 BK:aX K "is_below" "is_below" Ek a.Bm a.Ck
 Ji:Binds K a.Ck ["number", "bound"] []
 IY:mg "is_below" = some (.ref a.Bm)
 Jd:zI K (.ref a.Bm)=true
 Co:aX K "is_upto" "is_upto" EX a.BX a.CM
 JF:Binds K a.CM ["number", "bound"] []
 JB:mg "is_upto" = some (.ref a.BX)
 JD:zI K (.ref a.BX)=true
 Bq:aX K "is_walker" "is_walker" DP a.AU a.BO
 Ft:Binds K a.BO ["book", "thing"] []
 Fo:mg "is_walker" = some (.ref a.AU)
 Fq:zI K (.ref a.AU)=true
 Cq:aX K "by_time" "by_time" D4 a.BZ a.CO
 GU:Binds K a.CO ["book", "time"] []
 GO:mg "by_time" = some (.ref a.BZ)
 GR:zI K (.ref a.BZ)=true
 Eu:aX K "ways" "ways" EW a.D2 a.Fa
 Ka:Binds K a.Fa ["book"] []
 J8:mg "ways" = some (.ref a.D2)
 J9:zI K (.ref a.D2)=true
 BH:aX K "other_at" "other_at" Ei a.Bi a.Ch
 F3:Binds K a.Ch ["book", "number", "walker"] []
 FS:mg "other_at" = some (.ref a.Bi)
 FW:zI K (.ref a.Bi)=true
 BI:aX K "lone_row" "lone_row" Dj a.Bj a.Ci
 Jg:Binds K a.Ci ["book", "walker", "number"] []
 IW:mg "lone_row" = some (.ref a.Bj)
 Jb:zI K (.ref a.Bj)=true
 CZ:aX K "all_of" "all_of" FJ a.CD a.Di
 Iy:Binds K a.Di ["wishes"] []
 Ig:mg "all_of" = some (.ref a.CD)
 Io:zI K (.ref a.CD)=true
 Av:aX K "without_wish" "without_wish" CS a.Am a.AR
 FY:Binds K a.AR ["some", "number"] []
 FQ:mg "without_wish" = some (.ref a.Am)
 FU:zI K (.ref a.Am)=true
 CW:aX K "splits" "splits" EE a.CB a.Dg
 Iw:Binds K a.Dg ["some"] []
 Id:mg "splits" = some (.ref a.CB)
 Il:zI K (.ref a.CB)=true
 Br:aX K "is_letter" "is_letter" Cw a.AV a.BP
 Ix:Binds K a.BP ["book", "thing"] []
 Ie:mg "is_letter" = some (.ref a.AV)
 Im:zI K (.ref a.AV)=true
 Ap:aX K "first_givings" "first_givings" wN a.Ai a.Ax
 DJ:Binds K a.Ax ["book", "sender", "since"] []
 DH:mg "first_givings" = some (.ref a.Ai)
 DI:zI K (.ref a.Ai)=true
 Ak:aX K "earliest_times" "earliest_times" Cf a.Ag a.Au
 E4:Binds K a.Au ["book", "sender", "since"] []
 E1:mg "earliest_times" = some (.ref a.Ag)
 E3:zI K (.ref a.Ag)=true
 BL:aX K "earliest" "earliest" wt a.Bn a.Cl
 Jj:Binds K a.Cl ["book", "letter"] []
 IZ:mg "earliest" = some (.ref a.Bn)
 Je:zI K (.ref a.Bn)=true
 A5:aX K "still_open" "still_open" wx a.AA a.By
 EO:Binds K a.By ["book", "wishes", "stretch", "walker", "some"] []
 EI:mg "still_open" = some (.ref a.AA)
 EL:zI K (.ref a.AA)=true
 DD:aX K "least" "least" C1 a.C2 a.D6
 J0:Binds K a.D6 ["book", "stretch", "walker", "some", "following"] []
 JY:mg "least" = some (.ref a.C2)
 JZ:zI K (.ref a.C2)=true
 CY:aX K "row_of" "row_of" Dd a.CC a.Dh
 JR:Binds K a.Dh ["book", "wishes", "stretch", "walker", "following"] []
 JP:mg "row_of" = some (.ref a.CC)
 JQ:zI K (.ref a.CC)=true
 Aw:aX K "least_prices" "least_prices" wX a.An a.AS
 F4:Binds K a.AS ["book", "wishes"] []
 FT:mg "least_prices" = some (.ref a.An)
 FX:zI K (.ref a.An)=true
 A6:aX K "best_split" "best_split" CJ a.AB a.Az
 Hg:Binds K a.Az ["kept", "given", "some"] []
 G4:mg "best_split" = some (.ref a.AB)
 Ha:zI K (.ref a.AB)=true
 Cn:aX K "tree_by" "tree_by" wH a.BW a.CL
 JE:Binds K a.CL ["book", "sender", "since", "wishes", "prices"] []
 JA:mg "tree_by" = some (.ref a.BW)
 JC:zI K (.ref a.BW)=true
 CV:aX K "spread" "spread" Cu a.Cz a.Df
 FZ:Binds K a.Df ["book", "sender", "since", "wishes"] []
 FR:mg "spread" = some (.ref a.Cz)
 FV:zI K (.ref a.Cz)=true
 Cr:aX K "_law_by" "_law_by" D5 a.Ca a.CP
 GV:Binds K a.CP ["_law_book_here", "_law_time_here"] []
 GP:mg "_law_by" = some (.ref a.Ca)
 GS:zI K (.ref a.Ca)=true
 A8:aX K "_law_times" "_law_times" wy a.AD a.BA
 Hh:Binds K a.BA ["_law_book_here", "_law_sender", "_law_since"] []
 G5:mg "_law_times" = some (.ref a.AD)
 Hb:zI K (.ref a.AD)=true
 AM:aX K "_law_wishes" "_law_wishes" wb a.Ar a.Bf
 Gx:Binds K a.Bf ["_law_purse_here", "_law_book_here", "_law_most"] []
 Gq:mg "_law_wishes" = some (.ref a.Ar)
 Gu:zI K (.ref a.Ar)=true
 Ah:aX K "_law_tree_times" "_law_tree_times" xx a.Af a.Ao
 EQ:Binds K a.Ao ["_law_book_here", "_law_sender", "_law_since", "_law_steps"] []
 EJ:mg "_law_tree_times" = some (.ref a.Af)
 EM:zI K (.ref a.Af)=true
 AN:aX K "_law_served" "_law_served" qB a.As a.Bg
 Gy:Binds K a.Bg ["_law_times_here", "_law_wishes_here"] []
 Gr:mg "_law_served" = some (.ref a.As)
 Gv:zI K (.ref a.As)=true
 AO:aX K "_law_priced" "_law_priced" wT a.At a.Bh
 Gz:Binds K a.Bh ["_law_book_here", "_law_wishes_here", "_law_prices"] []
 Gs:mg "_law_priced" = some (.ref a.At)
 Gw:zI K (.ref a.At)=true
 Bv:aX K "_law_outs" "_law_outs" qG a.AZ a.BT
 IA:Binds K a.BT ["_law_book_here", "_law_wishes_here", "_law_prices"] []
 Ii:mg "_law_outs" = some (.ref a.AZ)
 Iq:zI K (.ref a.AZ)=true
 Be:aX K "_law_gives" "_law_gives" CK a.AJ a.BG
 Hl:Binds K a.BG ["_law_now", "_law_kept", "_law_given"] []
 G9:mg "_law_gives" = some (.ref a.AJ)
 Hf:zI K (.ref a.AJ)=true
 Bd:aX K "_law_links" "_law_links" wR a.AI a.BF
 Hk:Binds K a.BF ["_law_book_here", "_law_prices"] []
 G8:mg "_law_links" = some (.ref a.AI)
 He:zI K (.ref a.AI)=true
 Bx:aX K "_law_bars" "_law_bars" wG a.A4 a.BV
 ID:Binds K a.BV ["_law_book_here", "_law_letter", "_law_numbers"] []
 Ik:mg "_law_bars" = some (.ref a.A4)
 Iv:zI K (.ref a.A4)=true
 Bc:aX K "_law_never" "_law_never" qK a.AH a.BE
 Hj:Binds K a.BE ["_law_book_here", "_law_sender", "_law_since", "_law_wishes_here"] []
 G7:mg "_law_never" = some (.ref a.AH)
 Hd:zI K (.ref a.AH)=true
 Ba:aX K "_law_right" "_law_right" wC a.AF a.BC
 ER:Binds K a.BC ["_law_book_here", "_law_sender", "_law_since", "_law_wishes_here", "_law_told"] []
 EK:mg "_law_right" = some (.ref a.AF)
 EN:zI K (.ref a.AF)=true
 AQ:aX K "_law_copied" "_law_copied" wK a.Al a.AL
 C6:Binds K a.AL ["_law_thing"] []
 C4:mg "_law_copied" = some (.ref a.Al)
 C5:zI K (.ref a.Al)=true
 Fv:aX K "law" "law" Cv a.ET a.GW
 Kf:Binds K a.GW ["_law_script"] []
 Ke:mg "law" = some (.ref a.ET)
 Za:zI K (.ref a.ET)=true
 Mv:mg "all" = none
 Tr:mg "any" = none
 Mu:mg "bool" = none
 bV:mg "enumerate" = none
 OT:mg "int" = none
 aI:mg "isinstance" = none
 aU:mg "len" = none
 fJ:mg "list" = none
 Mt:mg "max" = none
 qk:mg "min" = none
 bL:mg "range" = none
 sU:mg "reversed" = none
 qj:mg "sorted" = none
 Tq:mg "str" = none
 d9:mg "tuple" = none
 OS:mg "zip" = none
 V7:PySem.W.codeHdIn K a.tC a.tP=true
 V8:a.Az.code=.ref a.tC
 qi:mg "LAST_TIME" = some (.int 1000000000 qp)
 eX:mg "MOST_SPREAD_WALKERS" = some (.int 8 eY)
 dZ:mg "MOST_SPREAD_MEETINGS" = some (.int 24 eL)
section
variable (P:Program) (w:World) {K:PySem.W.Frag}{mg:Str->Option Value} (base:Heap) {a:Ad}{ak:Tok}{ai:Tok}{ah:Tok}
theorem Ed:aA ["_law_script", "_law_k", "_law_cell", "_law_left"] ["_law_script", "_law_k"] (aq wv):=L2.bf
theorem Gk (T:Tx K mg a ak ai ah)(B:aS mg base):aO P w K mg base bZ 1 a.AG a.BD ["_law_script", "_law_k"] (Nb K):=by
 refine T.Bb.ok Ed (λvs H Q E h=>?_) (λbI A outer s H vs Q E hr h=>?_)
 ·obtain ⟨a,ns,k,rfl,_⟩:=h;rfl
 ·have nd:=Ed.nd;have hu:=hr.units;obtain ⟨sa,ns,k,rfl,hS,hk,q⟩:=h;refine bT ?_;intro Y
  let B0:Bk Y ((aj wv).drop 5):=⟨_,(xP (xp (xh (wI (xO (xQ (pv 3) (xQ (xj fC (xj xu (xj xu (xj dG (pv 2) xR) (xj dG (pv 1) xR)) xR) xR) (xQ xR xY rfl) rfl) rfl))))))⟩
  let B1:Bk Y ((aj wv).drop 3):=⟨_,(xP (xl (xt (xo jj (pv 2) xR (aB _)) (xP (xp (xn (i:=3) nd rfl rfl (xj cI (jX gE xR) (pv 2))))) xk) (xl (xt (xo Lf (pv 2) (xj iU xR xR) (aB _)) (xP (xp (xn (i:=3) nd rfl rfl (pv 2)))) xk) B0.bl)))⟩
  let B2:Bk Y ((aj wv).drop 1):=⟨_,(xP (xl (xt (xo jj (pv 1) (xg (xf rfl) (by rfl) T.aU PySem.boot_len (xO (xQ (pv 0) xY rfl))) (aB _)) (xP (xp (xn (i:=2) nd rfl rfl (xc (xb rfl) (pv 0) (pv 1) (λ_ _=>rfl))))) xk) (xl (xn (i:=3) nd rfl rfl xR) B1.bl)))⟩
  refine ⟨_,(xP (xl (xn (i:=2) nd rfl rfl xR) B2.bl)),?_⟩;have c18:vU 10 18:=⟨by decide,by decide,by decide⟩;have s3:3<=sizeLine:=by rw [sizeLine_eq];decide
  have fin:∀ (x y:Int) p,H p=none->Q (.ref p) (upd H p (.lst [.int x,.int y,.int 0])):=λx y p hp=>q p _ hp ⟨x,y,0,xS⟩ (xU hp);have c69:∀ x:Int,vV x 69:=λx=>.inr ⟨by decide,by decide⟩;have Yi:∀ x:Int,vV x 40503:=λx=>.inr ⟨by decide,by decide⟩;refine (zr rfl (zr rfl ⟨sa,zr rfl ⟨.inl hS,aH rfl rfl (zr rfl (lD (fun σ H1=>∃ c:Int,σ=[some (.ref sa),some (.int k),some (.int c),none]/\H=H1) ?_ (λc k0=>?_) (λc=>⟨0,rfl,rfl⟩)))⟩⟩))
  ·rintro σ H1 ⟨c,rfl,rfl⟩;refine (zr rfl (aH rfl rfl (zr rfl (lD (fun σ H1=>∃ d:Int,σ=[some (.ref sa),some (.int k),some (.int c),some (.int d)]/\H=H1) ?_ (λz k0=>?_) (λz=>⟨0,rfl,rfl⟩)))))
   ·rintro σ H1 ⟨d,rfl,rfl⟩;refine (zr rfl (aH rfl rfl ⟨c18,aH rfl rfl (zr rfl (lD (fun σ H1=>∃ d:Int,σ=[some (.ref sa),some (.int k),some (.int c),some (.int d)]/\H=H1) ?_ (λz k0=>(zr rfl (k0 _ _ ⟨c,rfl,rfl⟩))) (λz=>⟨d,rfl,rfl⟩)))⟩));rintro σ H1 ⟨d,rfl,rfl⟩;exact (zr rfl (zr rfl (aH rfl rfl ⟨c69 _,zr rfl (aH rfl rfl ⟨Yi _,aH rfl rfl (aH rfl rfl (aH rfl rfl ⟨(by show (0:Int) < 2147483647;decide),s3,fin _ _⟩))⟩)⟩)))
   ·exact (zr rfl (zr rfl (aH rfl rfl (k0 _ _ (zr rfl rfl)))))
  ·have hk2:k < ns.length:=by
    have:=of_decide_eq_true c;rw [zA] at this;omega
   exact (zr rfl (zr rfl ⟨sa,_,aH rfl rfl ⟨hS,xq (v:=V.int ns[k]) (by simp [hk2]),k0 _ _ (zr rfl rfl)⟩⟩))
theorem Ez:aA ["_law_purse_here", "_law_many", "_law_digit", "_law_mixed"] ["_law_purse_here", "_law_many"] (aq qE):=L2.bf
theorem wS (T:Tx K mg a ak ai ah)(B:aS mg base):aO P w K mg base bZ 1 a.AX a.BR ["_law_purse_here", "_law_many"] (Ph):=by
 refine T.Bt.ok Ez (λvs H Q E h=>?_) (λbI A outer s H vs Q E hr h=>?_)
 ·obtain ⟨p,n,rfl,_⟩:=h;rfl
 ·have nd:=Ez.nd;have hu:=hr.units;obtain ⟨p,n,rfl,n0,n1,⟨x,y,z,hp⟩,q⟩:=h;refine bT ?_;intro Y
  let B0:Bk Y ((aj qE).drop 3):=⟨_,(xP (xl (xn (i:=3) nd rfl rfl (xj fC (xj xu (xj xu (xj dG (pv 3) (pv 3)) (xj dG (xc (xb rfl) (pv 0) xR (λ_ _=>rfl)) xR)) (xc (xb rfl) (pv 0) xR (λ_ _=>rfl))) xR)) (xp (xh (xj fC (xj w8 (xj fC (xj dG (pv 3) xR) xR) xR) (pv 1))))))⟩
  let B1:Bk Y ((aj qE).drop 2):=⟨_,(xP (xl (xn (i:=3) nd rfl rfl (xj fC (xj dG (xj xu (xc (xb rfl) (pv 0) xR (λ_ _=>rfl)) (xj dG (xc (xb rfl) (pv 0) xR (λ_ _=>rfl)) xR)) xR) xR)) B0.bl))⟩
  let B2:Bk Y (nb (aj qE) 0):=⟨_,(xP (xl (xn (i:=2) nd rfl rfl (xj fC (xc (xb rfl) (pv 0) xR (λ_ _=>rfl)) (pv 1))) (xl (wd (xj w8 (xc (xb rfl) (pv 0) xR (λ_ _=>rfl)) (pv 1)) (fB (pv 0) xR qI)) (xp (xh (pv 2))))))⟩
  refine ⟨_,(xP (xl (xt (xo eU (xc (xb rfl) (pv 0) xR (λ_ _=>rfl)) xR (aB _)) B2.ps xk) (xl (Nt (pv 0) xR (LP rfl) xR Qe qI) B1.bl))),?_⟩;have hS:aG K H p _:=aG.of hp;have cm:∀ x c:Int,-(2 ^ 64) < c->c < 2 ^ 64->vV x c:=λx c h h'=>.inr ⟨h,h'⟩;refine (zr rfl ⟨p,_,aH rfl rfl ⟨hS,rfl,aH rfl rfl (zr rfl (cY (λh1=>?_) λh1=>?_))⟩⟩)
  ·refine (zr rfl ⟨p,_,aH rfl rfl ⟨hS,rfl,zr rfl (aH rfl rfl ⟨n0,?_⟩)⟩⟩);refine (zr rfl ⟨p,_,aH rfl rfl ⟨hS,rfl,zr rfl (aH rfl rfl ⟨⟨n0,n1⟩,zr rfl ⟨p,_,_,0,rfl,rfl,hp,rfl,?_⟩⟩)⟩⟩);exact (zr rfl (q _ _ (yr _ (by omega)) (yc _ n0) ⟨cL.set,_,_,_,xS⟩))
  ·refine (zr rfl ⟨p,_,aH rfl rfl ⟨hS,rfl,aH rfl rfl ⟨p,_,_,2,rfl,rfl,hp,rfl,?_⟩⟩⟩);have h2:(upd H p (HO.lst ([V.int x,V.int y,V.int z].set 2 (.int (z + 1))))) p=some (.lst [V.int x,V.int y,V.int (z + 1)]):=xS;have b2:cL p H (upd H p (HO.lst ([V.int x,V.int y,V.int z].set 2 (.int (z + 1))))):=cL.set;generalize upd H p (HO.lst ([V.int x,V.int y,V.int z].set 2 (.int (z + 1))))=H2 at h2 b2 ⊢;have UK:aG K H2 p _:=aG.of h2;have big:(2147483647:Int) < 2 ^ 64:=by decide
   have low:-(2:Int) ^ 64 < 0:=by decide
   have pos:(0:Int) < 2147483647:=by decide
   refine (zr rfl ⟨p,_,aH rfl rfl ⟨UK,rfl,zr rfl ⟨p,_,aH rfl rfl ⟨UK,rfl,aH rfl rfl ⟨cm _ _ (by decide) (by decide),aH rfl rfl (aH rfl rfl ⟨cm _ _ (by decide) (by decide),aH rfl rfl ⟨(by show (0:Int) < 2147483647;decide),?_⟩⟩)⟩⟩⟩⟩⟩);have m0:=yr ((y + (z + 1) * 362437) * 48271) (show (2147483647:Int)≠0 by decide);have m1:=yc ((y + (z + 1) * 362437) * 48271) pos;refine (zr rfl (zr rfl (aH rfl rfl ⟨.inl ⟨Int.lt_of_lt_of_le low m0,Int.lt_trans m1 big⟩,zr rfl ⟨p,_,aH rfl rfl ⟨UK,rfl,aH rfl rfl ⟨cm _ _ (by decide) (by decide),aH rfl rfl (zr rfl ⟨p,_,aH rfl rfl ⟨UK,rfl,aH rfl rfl (aH rfl rfl ⟨(by show (0:Int) < 2147483629;decide),?_⟩)⟩⟩)⟩⟩⟩⟩)));refine (zr rfl (aH rfl rfl ⟨cm _ _ (by decide) (by decide),aH rfl rfl ⟨(by show (0:Int) < 2147483563;decide),aH rfl rfl ⟨⟨by decide,by decide⟩,zr rfl (aH rfl rfl ⟨n0,?_⟩)⟩⟩⟩));exact q _ _ (yr _ (by omega)) (yc _ n0) ⟨b2,_,_,_,h2⟩
theorem Fk:aA ["_law_purse_here", "_law_high"] ["_law_purse_here"] (aq Dl):=L2.bf
theorem Ic (T:Tx K mg a ak ai ah)(B:aS mg base):aO P w K mg base bZ 2 a.Bo a.Cm ["_law_purse_here"] (RO):=by
 have Aa:=wS P w base T B;refine T.BM.ok Fk (λvs H Q E h=>?_) (λbI A outer s H vs Q E hr h=>?_)
 ·obtain ⟨p,rfl,_⟩:=h;rfl
 ·have nd:=Fk.nd;have hu:=hr.units;obtain ⟨p,rfl,hp,q⟩:=h;refine bT ?_;intro Y
  let B0:Bk Y ((aj Dl).drop 1):=⟨_,(xP (xp (xh (xj fC (xj xu (xj dG (pv 1) xR) (xZ Aa (hr.mono (by decide)) rfl T.Ab T.Ac T.Ae .nil av (xO (xQ (pv 0) (xQ xR xY rfl) rfl)))) (xj xu (xj iU xR xR) xR)))))⟩
  refine ⟨_,(xP (xl (xn (i:=1) nd rfl rfl (xZ Aa (hr.mono (by decide)) rfl T.Ab T.Ac T.Ae .nil av (xO (xQ (pv 0) (xQ xR xY rfl) rfl)))) B0.bl)),?_⟩;refine (zr rfl ⟨p,zr rfl ⟨by decide,by decide,hp,λd H1 d0 d1 g1=>(zr rfl (aH rfl rfl ⟨.inr ⟨by decide,by decide⟩,zr rfl ⟨p,zr rfl ⟨by decide,by decide,g1.2,λe H2 e0 e1 g2=>(aH rfl rfl (aH rfl rfl ⟨⟨by decide,by decide,by decide⟩,aH rfl rfl (aH rfl rfl ⟨(by show (0:Int) < 10 ^ Int.toNat 9 + 1;decide),?_⟩)⟩))⟩⟩⟩))⟩⟩);have e9:(10:Int) ^ Int.toNat 9 + 1=1000000001:=by decide
  rw [e9];exact q _ _ (yr _ (by decide)) (Int.lt_add_one_iff.mp (yc _ (by decide))) (g1.trans g2)
theorem Eb:aA ["_law_purse_here", "_law_walkers", "_law_rooms_here", "_law_walker", "_law_room"] ["_law_purse_here", "_law_walkers"] (aq ww):=L2.bf
theorem Gi (T:Tx K mg a ak ai ah)(B:aS mg base):aO P w K mg base bZ 2 a.AE a.BB ["_law_purse_here", "_law_walkers"] (Na):=by
 have Aa:=wS P w base T B;refine T.A9.ok Eb (λvs H Q E h=>?_) (λbI A outer s H vs Q E hr h=>?_)
 ·obtain ⟨p,n,rfl,_⟩:=h;rfl
 ·have nd:=Eb.nd;have hu:=hr.units;obtain ⟨p,n,rfl,hn,hp,q⟩:=h;refine bT ?_;intro Y
  let B0:Bk Y ((nb (aj ww) 1).drop 1):=⟨_,(xP (xl (xt (xo qH (pv 4) xR (aB _)) (xP (xp (xn (i:=4) nd rfl rfl (xZ Aa (hr.mono (by decide)) rfl T.Ab T.Ac T.Ae .nil av (xO (xQ (pv 0) (xQ xR xY rfl) rfl)))))) xk) (xp (wf (di zU zZ za wL (pv 2) (xO (xQ (pv 4) xY rfl)))))))⟩
  let B1:Bk Y (nb (aj ww) 1):=⟨_,(xP (xl (xn (i:=4) nd rfl rfl (xj w8 (xZ Aa (hr.mono (by decide)) rfl T.Ab T.Ac T.Ae .nil av (xO (xQ (pv 0) (xQ xR xY rfl) rfl))) xR)) B0.bl))⟩
  let B2:Bk Y ((aj ww).drop 1):=⟨_,(xP (xl (wF PassesOwn.never rfl (wZ rfl T.bL (xO (xQ (pv 1) xY rfl))) (xW (i:=3) nd rfl rfl) B1.ps) (xp (xh (fT (dH) (by rfl) T.d9 yB (xO (xQ (pv 2) xY rfl)))))))⟩
  refine ⟨_,(xP (xl (xn (i:=2) nd rfl rfl (wI cg)) B2.bl)),?_⟩;have line:1001<=sizeLine:=by rw [sizeLine_eq];decide
  refine ⟨zc _,λl hl=>?_⟩;have YR:=hp.ne hl;refine (zr rfl (zr rfl ⟨by omega,by omega,?_⟩));refine (let W1:IV:=λi σ H2=>∃ v3 v4 rs,σ=[some (.ref p),some (.int n),some (.ref l),v3,v4]/\H2 l=some (.lst (List.map V.int rs))/\rs.length=i/\(∀ r∈rs,(0:Int)<=r/\r<=99)/\Go p H H2;qD (lo:=0) (n:=n) W1)
   ⟨_,_,[],rfl,xS,rfl,(λ_ z=>nomatch z),(Go.refl hp).new hl⟩ ?_ ?_
  ·rintro i σ H2 hi ⟨v3,v4,rs,rfl,h2,hlen,hr,go⟩;refine (zr rfl ⟨p,zr rfl ⟨by decide,by decide,go.2,λd H3 d0 d1 g3=>(aH rfl rfl ⟨⟨by decide,by decide⟩,?_⟩)⟩⟩);refine (zr rfl ⟨rfl,zr rfl (lD (fun σ H4=>∃ x:Int,σ=[some (.ref p),some (.int n),some (.ref l),some (.int (0 + (i:Int))),some (.int x)]/\0<=x/\x<=99/\Go p H2 H4) ?_ (λc k0=>(zr rfl ⟨p,zr rfl ⟨by decide,by decide,g3.2,λe H4 e0 e1 g4=>k0 _ _ ⟨e,rfl,e0,by omega,g3.trans g4⟩⟩⟩)) (λc=>(zr rfl ⟨by omega,by omega,g3⟩)))⟩);rintro σ H4 ⟨x,rfl,x0,x1,g4⟩;have h4:=g4.1 l _ YR h2;refine (zr rfl ⟨.inl ⟨rfl,_,aG.of h4⟩,zr rfl ⟨l,aH rfl rfl ⟨h4,by rw [zA];omega,_,_,rs++[x],rfl,by rw [xS,zG];rfl,by simp [hlen],λr qz=>?_,?_⟩⟩⟩)
   ·rcases zT.mp qz with h | h
    ·exact hr r h
    ·cases zP.mp h;exact ⟨x0,x1⟩
   ·have g2:=go.trans g4;refine ⟨λb u nb e=>?_,?_⟩
    ·rw [xX (xT e hl)];exact g2.1 b u nb e
    ·obtain ⟨a,b,c,e⟩:=g2.2;exact ⟨a,b,c,by rw [xX YR.symm];exact e⟩
  ·rintro σ H2 ⟨v3,v4,rs,rfl,h2,hlen,hr,go⟩;exact (zr rfl ⟨l,zr rfl (.inl ⟨aG.of h2,λt ht=>q t rs _ (go.new ht) xS hlen hr⟩)⟩)
theorem EA:aA ["_law_purse_here", "_law_way"] ["_law_purse_here"] (aq qF):=L2.bf
theorem G0 (T:Tx K mg a ak ai ah)(B:aS mg base):aO P w K mg base bZ 2 a.AY a.BS ["_law_purse_here"] (Pj):=by
 have Aa:=wS P w base T B;refine T.Bu.ok EA (λvs H Q E h=>?_) (λbI A outer s H vs Q E hr h=>?_)
 ·obtain ⟨p,rfl,_⟩:=h;rfl
 ·have nd:=EA.nd;have hu:=hr.units;obtain ⟨p,rfl,hp,q⟩:=h;refine bT ?_;intro Y
  let B0:Bk Y ((aj qF).drop 3):=⟨_,(xP (xp (xh (xj xu xR (xZ Aa (hr.mono (by decide)) rfl T.Ab T.Ac T.Ae .nil av (xO (xQ (pv 0) (xQ (xj dG xR (xj iU xR xR)) xY rfl) rfl)))))))⟩
  let B1:Bk Y ((aj qF).drop 2):=⟨_,(xP (xl (xt (xo qH (pv 1) xR (aB _)) (xP (xp (xh (xj xu xR (xZ Aa (hr.mono (by decide)) rfl T.Ab T.Ac T.Ae .nil av (xO (xQ (pv 0) (xQ xR xY rfl) rfl))))))) xk) B0.bl))⟩
  let B2:Bk Y ((aj qF).drop 1):=⟨_,(xP (xl (xt (xo jj (pv 1) xR (aB _)) (xP (xp (xh (xc (xb rfl) (wI (xO (xQ xR (xQ xR (xQ xR xY rfl) rfl) rfl))) (pv 1) (λ_ _=>rfl))))) xk) B1.bl))⟩
  refine ⟨_,(xP (xl (xn (i:=1) nd rfl rfl (xZ Aa (hr.mono (by decide)) rfl T.Ab T.Ac T.Ae .nil av (xO (xQ (pv 0) (xQ xR xY rfl) rfl)))) B2.bl)),?_⟩;have s3:3<=sizeLine:=by rw [sizeLine_eq];decide
  refine (zr rfl ⟨p,zr rfl ⟨by decide,by decide,hp,λd H1 d0 d1 g1=>(zr rfl (aH rfl rfl (zr rfl (cY (λh1=>?_) λh1=>?_))))⟩⟩)
  ·obtain ⟨v,hv,v0,v1⟩:∃ v:Int,dI [V.int 0,V.int 1,V.int 1] d=some (V.int v)/\0<=v/\v<=1:=by
    obtain rfl | rfl | rfl:d=0\/d=1\/d=2:=by omega
    ·exact ⟨0,rfl,by decide,by decide⟩
    ·exact ⟨1,rfl,by decide,by decide⟩
    ·exact ⟨1,rfl,by decide,by decide⟩
   exact ⟨s3,λl hl=>(zr rfl (bw xS hv (q _ _ v0 (by omega) (g1.new hl))))⟩
  ·refine (zr rfl ⟨rfl,zr rfl (cY (λh2=>?_) λh2=>?_)⟩)
   ·exact (zr rfl ⟨p,zr rfl ⟨by decide,by decide,g1.2,λe H2 e0 e1 g2=>(aH rfl rfl (q _ _ (by omega) (by omega) (g1.trans g2)))⟩⟩)
   ·have e16:(16:Int) * 10 ^ Int.toNat 6=16000000:=by decide
    refine (zr rfl (aH rfl rfl ⟨⟨by decide,by decide,by decide⟩,aH rfl rfl ⟨.inl ⟨by decide,by decide⟩,p,zr rfl ⟨by decide,by decide,g1.2,λe H2 e0 e1 g2=>(aH rfl rfl (q _ _ (by omega) (by rw [e16] at e1;omega) (g1.trans g2)))⟩⟩⟩))
theorem Dc:aA ["_law_purse_here", "_law_walkers", "_law_most", "_law_found", "_law_when", "_law_busy", "_law_k", "_law_one", "_law_other", "_law_gap", "_law_passed", "_law_late"] ["_law_purse_here", "_law_walkers", "_law_most"] (aq xr):=L2.bf
theorem EZ (T:Tx K mg a ak ai ah)(B:aS mg base):aO P w K mg base bZ 3 a.Aj a.Ay ["_law_purse_here", "_law_walkers", "_law_most"] (rH):=by
 have Aa:=wS P w base T B;have IO:=G0 P w base T B;refine T.Aq.ok Dc (λvs H Q E h=>?_) (λbI A outer s H vs Q E hr h=>?_)
 ·obtain ⟨p,w,n,rfl,_⟩:=h;rfl
 ·have nd:=Dc.nd;have hu:=hr.units;obtain ⟨p,w,n,rfl,hn,w9,hw,hp,q⟩:=h;refine bT ?_;intro Y
  let B0:Bk Y ((aj xr).drop 6):=⟨_,(xP (xp (xh (fT (dH) (by rfl) T.d9 yB (xO (xQ (wu (own:=["_law_when", "_law_one", "_law_other", "_law_passed"]) (caps:=[11]) rfl (show aM ["_law_when", "_law_one", "_law_other", "_law_passed"] [11] ["_law_purse_here", "_law_walkers", "_law_most", "_law_found", "_law_when", "_law_busy", "_law_k", "_law_one", "_law_other", "_law_gap", "_law_passed", "_law_late"] (aq xr) _ from L2.i6) (wP rfl (xg (kG) (by rfl) T.qj PyProof.Rows.boot_sorted (xO (xQ (pv 3) xY rfl)))) (λ_ _ _ _=>(xw (n:=4) rfl rfl (xV (xW (i:=0) (show List.Nodup (["_law_when", "_law_one", "_law_other", "_law_passed", "_law_late"]:List Str) from by decide +kernel) rfl rfl) (xV (xW (i:=1) (show List.Nodup (["_law_when", "_law_one", "_law_other", "_law_passed", "_law_late"]:List Str) from by decide +kernel) rfl rfl) (xV (xW (i:=2) (show List.Nodup (["_law_when", "_law_one", "_law_other", "_law_passed", "_law_late"]:List Str) from by decide +kernel) rfl rfl) (xV (xW (i:=3) (show List.Nodup (["_law_when", "_law_one", "_law_other", "_law_passed", "_law_late"]:List Str) from by decide +kernel) rfl rfl) xv)))))) (λ_ _ _ _=>cA) (λ_ _ _ _=>(wB (xO (xQ (pv 1) (xQ (pv 2) (xQ (xj xu (pv 0) (pv 4)) (xQ (pv 3) xY rfl) rfl) rfl) rfl))))) xY rfl))))))⟩
  let B1:Bk Y ((aj xr).drop 5):=⟨_,(xP (xl (xt (@PW.pt _ _ _ (fk (xo qH (xZ Aa (hr.mono (by decide)) rfl T.Ab T.Ac T.Ae .nil av (xO (xQ (pv 0) (xQ xR xY rfl) rfl))) xR (aB _)) (dU (xo (Le hu) (pv 3) (wI cg) (aB _))))) (xP (xp (xn (i:=11) nd rfl rfl (xj cI (xj iU xR xR) (pv 4))))) xk) B0.bl))⟩
  let B2:Bk Y ((nb (aj xr) 3).drop 9):=⟨_,(xP (xp (wf (di zU zZ za wL (pv 3) (xO (xQ (wB (xO (xQ (pv 4) (xQ (xg (i8 rfl) (by rfl) T.qk ye (xO (xQ (pv 7) (xQ (pv 8) xY rfl) rfl))) (xQ (xg (i9 rfl) (by rfl) T.Mt PyProof.Rows.boot_max (xO (xQ (pv 7) (xQ (pv 8) xY rfl) rfl))) (xQ (pv 10) xY rfl) rfl) rfl) rfl))) xY rfl))))))⟩
  let B3:Bk Y (nb (nb (aj xr) 3) 8):=⟨_,(xP (xp (xn (i:=10) nd rfl rfl (xj xu xR (xZ Aa (hr.mono (by decide)) rfl T.Ab T.Ac T.Ae .nil av (xO (xQ (pv 0) (xQ xR xY rfl) rfl)))))))⟩
  let B4:Bk Y ((nb (aj xr) 3).drop 8):=⟨_,(xP (xl (xt (xo qH (xZ Aa (hr.mono (by decide)) rfl T.Ab T.Ac T.Ae .nil av (xO (xQ (pv 0) (xQ xR xY rfl) rfl))) xR (aB _)) B3.ps xk) B2.bl))⟩
  let B5:Bk Y ((nb (aj xr) 3).drop 7):=⟨_,(xP (xl (xn (i:=10) nd rfl rfl (xj xu xR (xj w8 (xZ Aa (hr.mono (by decide)) rfl T.Ab T.Ac T.Ae .nil av (xO (xQ (pv 0) (xQ xR xY rfl) rfl))) xR))) B4.bl))⟩
  let B6:Bk Y ((nb (aj xr) 3).drop 4):=⟨_,(xP (xl (xt (xo eU (pv 9) xR (aB _)) (xP (xp (xn (i:=5) nd rfl rfl (wI cg)))) xk) (xl (xn (i:=4) nd rfl rfl (xj xu (pv 4) (pv 9))) (xl (xn (i:=5) nd rfl rfl (xj Lg (pv 5) (wI (xO (xQ (pv 7) (xQ (pv 8) xY rfl) rfl))))) B5.bl))))⟩
  let B7:Bk Y ((nb (aj xr) 3).drop 3):=⟨_,(xP (xl (xt (@PW.pt _ _ _ (wl (xo (gK rfl) (pv 7) (pv 5) rfl) (wc (xo (gK rfl) (pv 8) (pv 5) rfl)))) (xP (xp (xn (i:=9) nd rfl rfl (xg (i9 rfl) (by rfl) T.Mt PyProof.Rows.boot_max (xO (xQ xR (xQ (pv 9) xY rfl) rfl)))))) xk) B6.bl))⟩
  let B8:Bk Y ((nb (aj xr) 3).drop 1):=⟨_,(xP (xl (xn (i:=8) nd rfl rfl (xj fC (xj xu (xj xu (pv 7) xR) (xZ Aa (hr.mono (by decide)) rfl T.Ab T.Ac T.Ae .nil av (xO (xQ (pv 0) (xQ (xj cI (pv 1) xR) xY rfl) rfl)))) (pv 1))) (xl (xn (i:=9) nd rfl rfl (xZ IO (hr.mono (by decide)) rfl T.Ih T.Ip T.Iz .nil av (xO (xQ (pv 0) xY rfl)))) B7.bl)))⟩
  let B9:Bk Y (nb (aj xr) 3):=⟨_,(xP (xl (xn (i:=7) nd rfl rfl (xZ Aa (hr.mono (by decide)) rfl T.Ab T.Ac T.Ae .nil av (xO (xQ (pv 0) (xQ (pv 1) xY rfl) rfl)))) B8.bl))⟩
  let T3:Bk Y ((aj xr).drop 2):=⟨_,(xP (xl (xn (i:=5) nd rfl rfl (wI cg)) (xl (wF PassesOwn.never rfl (wZ rfl T.bL (xO (xQ (pv 2) xY rfl))) (xW (i:=6) nd rfl rfl) B9.ps) (xl (xn (i:=11) nd rfl rfl xR) B1.bl))))⟩
  let Yw:Bk Y ((aj xr).drop 1):=⟨_,(xP (xl (xn (i:=4) nd rfl rfl (xj xu xR (xj dG (xj w8 (xZ Aa (hr.mono (by decide)) rfl T.Ab T.Ac T.Ae .nil av (xO (xQ (pv 0) (xQ xR xY rfl) rfl))) xR) (xZ Aa (hr.mono (by decide)) rfl T.Ab T.Ac T.Ae .nil av (xO (xQ (pv 0) (xQ (xj iU xR xR) xY rfl) rfl)))))) T3.bl))⟩
  refine ⟨_,(xP (xl (xn (i:=3) nd rfl rfl (wI cg)) Yw.bl)),?_⟩;have line:1001<=sizeLine:=by rw [sizeLine_eq];decide
  have c7:vU 10 7:=⟨by decide,by decide,by decide⟩;have e7:(10:Int) ^ Int.toNat 7=10000000:=by decide
  have e64:(2:Int) ^ 64 > 1000:=by decide
  have Mb:(2:Int) ^ 200 > 1000:=by decide
  refine ⟨zc _,λlf LH=>?_⟩;have MN:=hp.ne LH;have UC:br (upd H lf (.lst [])) p:=hp.new LH;refine (zr rfl ⟨p,zr rfl ⟨by decide,by decide,UC,λd H1 d0 d1 g1=>(aH rfl rfl ⟨⟨by decide,by decide⟩,zr rfl (aH rfl rfl ⟨c7,?_⟩)⟩)⟩⟩);refine ⟨p,zr rfl ⟨by decide,by decide,g1.2,λd2 H2 d20 d21 g2=>(aH rfl rfl ⟨.inl ⟨by omega,by omega⟩,aH rfl rfl ?_⟩)⟩⟩;rw [e7] at d21;refine ⟨zc _,λlb UE=>?_⟩;have ZY:=g1.trans g2;have Qq:H2 lf=some (.lst []):=ZY.1 lf _ MN xS;have ZT:Go p H H2:=((Go.refl hp).new LH).trans ZY;refine (zr rfl (zr rfl ⟨by omega,by omega,?_⟩));have Yz:1<=1 + d / 2 * d2/\1 + d / 2 * d2<=10000000:=by
   obtain h | h:d / 2=0\/d / 2=1:=by omega
   ·rw [h];omega
   ·rw [h];omega
  refine qD (lo:=0) (n:=n) (UY p lf w n H)
   ⟨_,_,_,_,_,_,lb,[],[],rfl,by rw [xX (xT Qq UE)];exact Qq,xS,(xT Qq UE).symm,ZT.2.ne UE,(λ_ z=>nomatch z),⟨(λ_ z=>nomatch z),.nil,(λ_ z=>nomatch z)⟩,rfl,by simp,Yz.1,(by have:=Yz.2;simpa using this),ZT.new UE⟩ ?_ ?_
  ·rintro i σ H3 hi ⟨v6,v7,v8,v9,v10,wh,lb,bs,fs,rfl,QD,ZP,nbf,R9,UL,F,Ls,P1,T4,VZ,go⟩;have w2:2<=w:=by omega
   refine (zr rfl (zr rfl ⟨p,w,rfl,by omega,by omega,go.2,λone H4 o0 o1 g4=>?_⟩));refine (zr rfl (aH rfl rfl (zr rfl (zr rfl (aH rfl rfl ⟨p,zr rfl ⟨by omega,by omega,g4.2,λx H5 x0 x1 g5=>(aH rfl rfl (zr rfl (aH rfl rfl ⟨by omega,?_⟩)))⟩⟩)))));have ot:=PF o0 o1 x0 x1;refine (zr rfl ⟨p,rfl,g5.2,λgap H6 ab9 ab8 g6=>?_⟩);have Td:=g4.trans (g5.trans g6);have XQ:=Td.1 lb _ R9 ZP;have hf6:=Td.1 lf _ MN QD;refine (zr rfl (zr rfl ⟨lb,zr rfl ⟨.inl (aG.of XQ),rfl,mO bs,zr rfl (WO (fun σ H7=>∃ gp:Int,σ=[some (.ref p),some (.int w),some (.int n),some (.ref lf),some (.int wh),some (.ref lb),some (.int (0 + (i:Int))),some (.int one),some (.int ((one + 1 + x) % w)),some (.int gp),v10,none]/\H6=H7/\0<=gp/\gp<=16000000/\(gp=0->one ∉ bs/\(one + 1 + x) % w ∉ bs)) ?_ (λc1 k0=>?_) (λc1 k0=>(zr rfl (zr rfl ⟨lb,zr rfl ⟨.inl (aG.of XQ),rfl,mO bs,zr rfl (pU (λc2=>?_) (λc2=>?_))⟩⟩))))⟩⟩))
   rotate_left
   ·exact (zr rfl (kT rfl (k0 _ _ (zr rfl ⟨rfl,by split <;> omega,by split <;> omega,λz=>by split at z <;> omega⟩))))
   ·exact (zr rfl (kT rfl (k0 _ _ (zr rfl ⟨rfl,by split <;> omega,by split <;> omega,λz=>by split at z <;> omega⟩))))
   ·have c1':one ∉ bs:=of_decide_eq_false (pW.symm.trans c1);have c2':(one + 1 + x) % w ∉ bs:=of_decide_eq_false (pW.symm.trans c2);exact k0 _ _ ⟨gap,rfl,rfl,by omega,by omega,λ_=>⟨c1',c2'⟩⟩
   rintro σ H7 ⟨gp,rfl,rfl,gp0,gp1,hg⟩;refine (zr rfl (aH rfl rfl (zr rfl (lD (fun σ H7=>∃ ly bz,σ=[some (.ref p),some (.int w),some (.int n),some (.ref lf),some (.int wh),some (.ref ly),some (.int (0 + (i:Int))),some (.int one),some (.int ((one + 1 + x) % w)),some (.int gp),v10,none]/\Go p H3 H7/\H7 ly=some (.lst (List.map V.int bz))/\ly≠p/\bz.length<=2 * i/\∀ z∈bs,gp=0->z∈bz) ?_ (λc3 k0=>⟨zc _,λln Zn=>k0 _ _ ⟨ln,[],rfl,Td.new Zn,xS,Td.2.ne Zn,zc _,λ_ _ z=>by have:=of_decide_eq_true c3;omega⟩⟩) (λc3=>⟨lb,bs,rfl,Td,XQ,R9,P1,λ_ z _=>z⟩)))));rintro σ H7 ⟨ly,bz,rfl,gy,hyb,nyp,aa1,N5⟩;have ab3:=gy.1 lf _ MN QD;refine (zr rfl (zr rfl (aH rfl rfl ?_)));refine (zr rfl (zr rfl (zr rfl ⟨by show 2<=sizeLine;omega,λl2 N3=>?_⟩)));have UM:=gy.new (o:=HO.lst [V.int one,V.int ((one + 1 + x) % w)]) N3;have Sy:=xU (o:=HO.lst [V.int one,V.int ((one + 1 + x) % w)]) N3 _ _ hyb;have ZQ:(upd H7 l2 (HO.lst [V.int one,V.int ((one + 1 + x) % w)])) l2=some (.lst [V.int one,V.int ((one + 1 + x) % w)]):=xS;generalize upd H7 l2 (HO.lst [V.int one,V.int ((one + 1 + x) % w)])=H8 at UM Sy ZQ ⊢;refine ⟨ly,l2,aH rfl rfl ⟨Sy,ZQ,(by simp only [zA,ze,yL];omega),λl3 Xw=>?_⟩⟩;have YY:l3≠p:=UM.2.ne Xw;have n3f:l3≠lf:=(xT (UM.1 lf _ MN QD) Xw).symm;have X3:=UM.new (o:=HO.lst (List.map V.int bz++[V.int one,V.int ((one + 1 + x) % w)])) Xw;have S8:(upd H8 l3 (HO.lst (List.map V.int bz++[V.int one,V.int ((one + 1 + x) % w)]))) l3=some (.lst (List.map V.int (bz++[one,(one + 1 + x) % w]))):=by rw [xS,zG];rfl
   generalize upd H8 l3 (HO.lst (List.map V.int bz++[V.int one,V.int ((one + 1 + x) % w)]))=H9 at X3 S8 ⊢;refine (zr rfl ⟨p,zr rfl ⟨by decide,by decide,X3.2,λd4 vS d40 d41 oG=>(aH rfl rfl ⟨⟨by decide,by decide⟩,aH rfl rfl ?_⟩)⟩⟩);refine (zr rfl ⟨p,zr rfl ⟨by decide,by decide,oG.2,λd5 Q6 d50 d51 X4=>⟨rfl,zr rfl (lD (fun σ Q5=>∃ mm:Int,σ=[some (.ref p),some (.int w),some (.int n),some (.ref lf),some (.int (wh + gp)),some (.ref l3),some (.int (0 + (i:Int))),some (.int one),some (.int ((one + 1 + x) % w)),some (.int gp),some (.int mm),none]/\1<=mm/\mm<=99/\Go p H9 Q5) ?_ (λc5 k0=>(zr rfl ⟨p,zr rfl ⟨by decide,by decide,X4.2,λd6 Q5 d60 d61 UN=>(aH rfl rfl (k0 _ _ (zr rfl ⟨by omega,by omega,(oG.trans X4).trans UN⟩)))⟩⟩)) (λc5=>(zr rfl ⟨by omega,by omega,oG.trans X4⟩)))⟩⟩⟩);rintro σ Q5 ⟨mm,rfl,mm0,mm1,UN⟩;have QG:=X3.trans UN;have hz:=QG.1 lf _ MN QD;refine (zr rfl ⟨.inl ⟨rfl,_,aG.of hz⟩,zr rfl (zr rfl (zr rfl (kT rfl (zr rfl (zr rfl (kT rfl (zr rfl ⟨by show 4<=sizeLine;omega,λt ht=>⟨lf,aH rfl rfl ⟨(by rw [xX (xT hz ht)];exact hz),(by rw [zA];omega),?_⟩⟩⟩)))))))⟩);exact UY.step MN LH F Ls (bs':=bz++[one,(one + 1 + x) % w]) (by simp only [zN,ze,yL];omega) T4 VZ hz (UN.1 l3 _ YY S8) n3f YY (λa ha=>QG.aQ go.2 _ _ (UL a ha)) (go.trans QG) ht gp0 gp1 o0 o1 ot.1 ot.2.1 ot.2.2 mm0 mm1 hg (λz Uy Ux=>zX _ (N5 z Uy Ux)) (by simp) (by simp)
  ·rintro σ H3 ⟨v6,v7,v8,v9,v10,wh,lb,bs,fs,rfl,QD,ZP,nbf,R9,UL,F,Ls,P1,T4,VZ,go⟩;have c9:vU 10 9:=⟨by decide,by decide,by decide⟩;have e9:(10:Int) ^ Int.toNat 9=1000000000:=by decide
   refine (zr rfl ⟨p,zr rfl ⟨by decide,by decide,go.2,λd8 H4 _ _ g4=>⟨rfl,zr rfl (WR (fun σ H5=>∃ iA:Int,(∃ v6 v7 v8 v9 v10,σ=[some (.ref p),some (.int w),some (.int n),some (.ref lf),some (.int wh),some (.ref lb),v6,v7,v8,v9,v10,some (.int iA)])/\Go p H3 H5/\0<=iA/\(fs≠[]->wh + iA<=1000000000)) ?_ (λc k0=>?_) (λc=>⟨0,⟨_,_,_,_,_,rfl⟩,g4,zx _,λ_=>by omega⟩))⟩⟩⟩)
   rotate_left
   ·have ZO:=g4.1 lf _ MN QD;refine (zr rfl ⟨zc _,λl4 Xv=>⟨lf,l4,zr rfl ⟨rfl,aG.of (by rw [xX (xT ZO Xv)];exact ZO),aG.of xS,zr rfl (pU (λc2=>?_) (λc2=>?_))⟩⟩⟩)
    ·exact (aH rfl rfl ⟨c9,zr rfl (aH rfl rfl (k0 _ _ ⟨_,⟨_,_,_,_,_,rfl⟩,g4.new Xv,by rw [e9];omega,λ_=>by rw [e9];omega⟩))⟩)
    ·exact k0 _ _ ⟨0,⟨_,_,_,_,_,rfl⟩,g4.new Xv,zx _,λ_=>by omega⟩
   rintro σ Hz ⟨iA,⟨v6',v7',v8',v9',aah,rfl⟩,gz,L0,L1⟩;have hz:=gz.1 lf _ MN QD;refine (zr rfl ⟨lf,fs.map (λa=>(a.1,a.2.row)),rfl,?_,(by rw [zA];omega),(λa ha=>?_),λD qs hD pq sq=>?_⟩)
   ·rw [yF];exact aG.of hz
   ·obtain ⟨b,hb,rfl⟩:=zQ.mp ha;exact ⟨gz.aQ go.2 _ _ (UL b hb),by intro z;cases z⟩
   obtain ⟨rs,Wv,srs,rfl⟩:=uX pq sq;refine ⟨D,rfl,⟨_,aG.of xS⟩,?_⟩;have lrs:rs.length=n:=by rw [Wv.length_eq,Ls]
   have hDl:(upd Hz D (HO.lst (List.map (λa=>V.ref a.1) (List.map (λa:Addr×M4=>(a.1,a.2.row)) rs)))) D=some (.lst (rs.map λa=>V.ref a.1)):=by rw [xS,yF];rfl
   have rD:=λa (ha:a∈rs)=>(bC.new (o:=HO.lst (List.map (λa=>V.ref a.1) (List.map (λa:Addr×M4=>(a.1,a.2.row)) rs))) hD) _ _ (gz.aQ go.2 _ _ (UL a (Wv.mem_iff.mp ha)));have gD:=(go.trans gz).new (o:=HO.lst (List.map (λa=>V.ref a.1) (List.map (λa:Addr×M4=>(a.1,a.2.row)) rs))) hD;refine (let W2:IC:=λi τ acc H5=>∃ ps:List (Addr×M4),(∃ t0 t1 t2 t3,τ=[t0,t1,t2,t3,some (.int iA)])/\acc=(ps.map λa=>V.ref a.1)/\(ps.map (·.2))=((rs.take i).map λa=>a.2.iA iA)/\jd H5 ps/\au (upd Hz D (HO.lst (List.map (λa=>V.ref a.1) (List.map (λa:Addr×M4=>(a.1,a.2.row)) rs)))) H5;cT (K:=K) (a:=D) (xs:=rs.map λa=>V.ref a.1) W2)
    ?_ (by rw [zA];omega) ?_ ?_ ?_
   ·exact ⟨[],⟨_,_,_,_,rfl⟩,rfl,rfl,(λ_ z=>nomatch z),au.refl _⟩
   ·rintro i τ acc H6 ⟨ps,⟨t0,t1,t2,t3,rfl⟩,rfl,Rt,rws,sm⟩;have:=congrArg List.length Rt;rw [zA,zA,zu] at this;exact ⟨by rw [zA];omega,sm.seq (aG.of hDl)⟩
   ·rintro i x τ acc H5 C hx ⟨ps,⟨t0,t1,t2,t3,rfl⟩,rfl,Rt,rws,sm⟩ hC;obtain ⟨r,hr,rfl⟩:=xz hx;have eV:=sm _ _ (rD r (zB hr));refine (Kq eV (zr rfl (zr rfl (zr rfl (zr rfl (aH rfl rfl (zr rfl ⟨by show 4<=sizeLine;omega,λt ht=>hC _ _ _ ?_⟩)))))));refine ⟨ps++[(t,r.2.iA iA)],⟨_,_,_,_,rfl⟩,by rw [zG];rfl,by rw [zG,wM hr,zG,Rt];rfl,λa ha=>?_,sm.trans (xU ht)⟩;rcases zT.mp ha with h | h
    ·exact xU ht _ _ (rws a h)
    ·cases zP.mp h;exact xS
   ·rintro τ acc H6 ⟨ps,⟨t0,t1,t2,t3,rfl⟩,rfl,Rt,rws,sm⟩ lt cN;refine ⟨lt,zr rfl (.inl ⟨aG.of xS,λt ht=>q t ps _ (((gD.same sm).new cN).new ht) xS ((rws.aQ (bC.new cN)).aQ (bC.new ht)) ?_ ?_⟩)⟩
    ·rw [Rt,zA,zv];exact F.good (by omega) L0 L1 Wv srs
    ·have:=congrArg List.length Rt;rw [zA,zA,zA,zv] at this;omega
theorem EC:aA ["_law_purse_here", "_law_most_walkers", "_law_most_meetings", "_law_walkers", "_law_most"] ["_law_purse_here", "_law_most_walkers", "_law_most_meetings"] (aq Cy):=L2.bf
theorem G2 (T:Tx K mg a ak ai ah)(B:aS mg base):aO P w K mg base bZ 4 a.A3 a.BU ["_law_purse_here", "_law_most_walkers", "_law_most_meetings"] (Pn):=by
 have Aa:=wS P w base T B;have HN:=Gi P w base T B;have FD:=EZ P w base T B;refine T.Bw.ok EC (λvs H Q E h=>?_) (λbI A outer s H vs Q E hr h=>?_)
 ·obtain ⟨p,a,n,rfl,_⟩:=h;rfl
 ·have nd:=EC.nd;have hu:=hr.units;obtain ⟨p,aw,n,rfl,a1,a2,hn,hp,q⟩:=h;refine bT ?_;intro Y
  let B0:Bk Y ((aj Cy).drop 3):=⟨_,(xP (xp (xh (wB (xO (xQ (xZ HN (hr.mono (by decide)) rfl T.G6 T.Hc T.Hi .nil av (xO (xQ (pv 0) (xQ (pv 3) xY rfl) rfl))) (xQ (xZ FD (hr.mono (by decide)) rfl T.Fy T.Fz T.FA .nil av (xO (xQ (pv 0) (xQ (pv 3) (xQ (pv 4) xY rfl) rfl) rfl))) xY rfl) rfl))))))⟩
  let B1:Bk Y ((aj Cy).drop 1):=⟨_,(xP (xl (xn (i:=4) nd rfl rfl (xZ Aa (hr.mono (by decide)) rfl T.Ab T.Ac T.Ae .nil av (xO (xQ (pv 0) (xQ (xj xu (pv 2) xR) xY rfl) rfl)))) (xl (xt (xo qH (pv 3) xR (aB _)) (xP (xp (xn (i:=4) nd rfl rfl xR))) xk) B0.bl)))⟩
  refine ⟨_,(xP (xl (xn (i:=3) nd rfl rfl (xj xu xR (xZ Aa (hr.mono (by decide)) rfl T.Ab T.Ac T.Ae .nil av (xO (xQ (pv 0) (xQ (pv 1) xY rfl) rfl))))) B1.bl)),?_⟩;have line:1001<=sizeLine:=by rw [sizeLine_eq];decide
  have Mb:(2:Int) ^ 200 > 1000:=by decide
  refine (zr rfl (zr rfl ⟨p,aw,rfl,by omega,by omega,hp,λd H1 d0 d1 g1=>(aH rfl rfl ?_)⟩));obtain ⟨k,rfl⟩:=zk d0;refine (zr rfl (zr rfl (aH rfl rfl ⟨p,zr rfl ⟨by omega,by omega,g1.2,λe H2 e0 e1 g2=>?_⟩⟩)));obtain ⟨m,em⟩:=zk e0;have hm:m<=n:=by omega
  refine ⟨_,rfl,rfl,_,rfl,lD (fun σ H3=>∃ m:Nat,σ=[some (.ref p),some (.int aw),some (.int n),some (.int (1 + (k:Int))),some (.int m)]/\m<=n/\(m=0\/1<=k)/\Go p H H3) ?_ (λc k0=>k0 _ _ ⟨0,rfl,zc _,.inl rfl,g1.trans g2⟩) (λc=>⟨m,by rw [em];rfl,hm,.inr (by
    by_cases hk:k=0
    ·subst hk;exact absurd c (by simp)
    ·omega),g1.trans g2⟩)⟩
  rintro σ H2 ⟨m,rfl,hm,hk,g2⟩;refine (zr rfl (zr rfl ⟨p,1 + k,by simp,by omega,g2.2,λtr aa H3 g3 h3 l3 r3=>(zr rfl (zr rfl (zr rfl ⟨p,_,m,rfl,by omega,by omega,by omega,g3.2,λtm ps H4 g4 h4 r4 gd l4=>⟨by show 2<=sizeLine;omega,λb hb=>?_⟩⟩)))⟩));have h3':=g4.aQ g3.2 _ _ h3;have tn:=bC.new (o:=HO.tup [V.ref tr,V.ref tm]) hb;refine q b aa tr tm ps _ ((g2.trans (g3.trans g4)).new hb) ⟨xS,tn _ _ h3',tn _ _ h4,r4.aQ tn⟩ (by omega) (by omega) r3 ?_ (by omega);rw [l3];simpa using gd
theorem Ey:aA ["_law_purse_here", "_law_book_here", "_law_later", "_law_way", "_law_at"] ["_law_purse_here", "_law_book_here", "_law_later"] (aq wQ):=L2.bf
theorem EH (T:Tx K mg a ak ai ah)(B:aS mg base):aO P w K mg base bZ 3 a.AW a.BQ ["_law_purse_here", "_law_book_here", "_law_later"] (KJ):=by
 have Aa:=wS P w base T B;have Jw:=Ic P w base T B;refine T.Bs.ok Ey (λvs H Q E h=>?_) (λbI A outer s H vs Q E hr h=>?_)
 ·obtain ⟨p,b,j,_,_,_,_,rfl,_⟩:=h;rfl
 ·have nd:=Ey.nd;have hu:=hr.units;obtain ⟨p,b,j,aa,tr,tm,ps,rfl,hj,hb,gd,hp,q⟩:=h;refine bT ?_;intro Y
  let B0:Bk Y ((aj wQ).drop 6):=⟨_,(xP (xp (xh (xj cI (xc (xi rfl) (xc (xi rfl) (xc (xi rfl) (pv 1) xR (λ_ _=>rfl)) (pv 4) (λ_ _=>rfl)) xR (λ_ _=>rfl)) (xc (xb rfl) (wI (xO (xQ xR (xQ xR xY rfl) rfl))) (xj PJ (xj w8 (xZ Aa (hr.mono (by decide)) rfl T.Ab T.Ac T.Ae .nil av (xO (xQ (pv 0) (xQ xR xY rfl) rfl))) xR) (pv 2)) (λ_ _=>rfl))))))⟩
  let B1:Bk Y (nb (aj wQ) 5):=⟨_,(xP (xp (xn (i:=4) nd rfl rfl (xc (xb rfl) (wI (xO (xQ (xj w8 (pv 4) xR) (xQ (xj w8 (xj xu (pv 4) (xg (xf rfl) (by rfl) T.aU PySem.boot_len (xO (xQ (xc (xi rfl) (pv 1) xR (λ_ _=>rfl)) xY rfl)))) xR) xY rfl) rfl))) (pv 2) (λ_ _=>rfl)))))⟩
  let B2:Bk Y ((aj wQ).drop 4):=⟨_,(xP (xl (xn (i:=4) nd rfl rfl (xZ Aa (hr.mono (by decide)) rfl T.Ab T.Ac T.Ae .nil av (xO (xQ (pv 0) (xQ (xg (xf rfl) (by rfl) T.aU PySem.boot_len (xO (xQ (xc (xi rfl) (pv 1) xR (λ_ _=>rfl)) xY rfl))) xY rfl) rfl)))) (xl (xt (xo eU (pv 3) xR (aB _)) B1.ps xk) B0.bl)))⟩
  let B3:Bk Y ((aj wQ).drop 3):=⟨_,(xP (xl (xt (xo (vd hu) (xc (xi rfl) (pv 1) xR (λ_ _=>rfl)) (wB cg) (aB _)) (xP (xp (xh (xZ Aa (hr.mono (by decide)) rfl T.Ab T.Ac T.Ae .nil av (xO (xQ (pv 0) (xQ xR xY rfl) rfl)))))) xk) B2.bl))⟩
  let B4:Bk Y ((aj wQ).drop 2):=⟨_,(xP (xl (xt (xo qH (pv 3) xR (aB _)) (xP (xp (xh (xZ Jw (hr.mono (by decide)) rfl T.Ja T.Jf T.Jk .nil av (xO (xQ (pv 0) xY rfl)))))) xk) B3.bl))⟩
  let B5:Bk Y ((aj wQ).drop 1):=⟨_,(xP (xl (xt (xo qH (pv 3) xR (aB _)) (xP (xp (xh (xc (xb rfl) (wI (xO (xQ xR (xQ (xj iU xR xR) xY rfl) rfl))) (pv 2) (λ_ _=>rfl))))) xk) B4.bl))⟩
  refine ⟨_,(xP (xl (xn (i:=3) nd rfl rfl (xZ Aa (hr.mono (by decide)) rfl T.Ab T.Ac T.Ae .nil av (xO (xQ (pv 0) (xQ xR xY rfl) rfl)))) B5.bl)),?_⟩;have line:=bE;have Mb:(2:Int) ^ 200 > 10000:=by decide
  have c9:vU 10 9:=⟨by decide,by decide,by decide⟩;have e9:(10:Int) ^ Int.toNat 9=1000000000:=by decide
  have Y5:=gd.len;refine (zr rfl ⟨p,zr rfl ⟨by decide,by decide,hp,λway H1 w0 w1 g1=>?_⟩⟩);refine (zr rfl ⟨rfl,zr rfl (cY (λc=>?_) (λc=>(zr rfl ⟨rfl,zr rfl (cY (λc=>?_) (λc=>?_))⟩)))⟩)
  ·refine (aH rfl rfl ⟨c9,by show 2<=sizeLine;omega,λl hl=>(zr rfl ?_)⟩);rcases hj with rfl | rfl
   ·exact (bw xS rfl (q _ _ (by omega) (by omega) (g1.new hl)))
   ·exact (bw xS rfl (q _ _ (by rw [e9];decide) (by rw [e9];decide) (g1.new hl)))
  ·exact (zr rfl ⟨p,rfl,g1.2,λd H2 d0 d1 g2=>q _ _ d0 d1 (g1.trans g2)⟩)
  have iZ:=hb.aQ (g1.aQ hp);refine (zr rfl (bM iZ.book rfl ⟨zc _,λu Sz=>?_⟩));have nM:=iZ.aQ (bC.new (o:=HO.tup []) Sz);have g2:=g1.new (o:=HO.tup []) Sz;refine ⟨tm,u,zr rfl ⟨rfl,bq.of nM.meets,bq.of xS,zr rfl (pU (λc2=>?_) (λc2=>?_))⟩⟩
  ·exact (zr rfl ⟨p,zr rfl ⟨by decide,by decide,g2.2,λd H3 d0 d1 g3=>q _ _ d0 (by omega) (g2.trans g3)⟩⟩)
  have lps:1<=ps.length:=by
   cases ps with
   | nil=>cases c2
   | cons _ _=>simp
  refine (zr rfl (zr rfl (bM nM.book rfl ⟨tm,zr rfl ⟨.inr (bq.of nM.meets),p,zr rfl ⟨by rw [zA];omega,by rw [zA];omega,g2.2,λd H3 d0 d1 g3=>?_⟩⟩⟩)));rw [zA] at d1;have UJ:=nM.aQ (g3.aQ g2.2);have ZV:=g2.trans g3;refine (zr rfl (aH rfl rfl (zr rfl (cY (λc3=>?_) (λc3=>?_)))))
  ·refine (zr rfl (aH rfl rfl ⟨⟨by decide,by decide⟩,zr rfl (zr rfl (bM UJ.book rfl ⟨tm,zr rfl ⟨.inr (bq.of UJ.meets),aH rfl rfl (aH rfl rfl ⟨⟨by decide,by decide⟩,by show 2<=sizeLine;omega,λl hl=>(zr rfl ?_)⟩)⟩⟩))⟩));have gx:=ZV.new (o:=HO.lst [V.int (d / 2),V.int ((d + ((ps.map λa=>V.ref a.1).length:Int)) / 2)]) hl;have hx:=UJ.aQ (bC.new (o:=HO.lst [V.int (d / 2),V.int ((d + ((ps.map λa=>V.ref a.1).length:Int)) / 2)]) hl);obtain ⟨k,ek,hk⟩:∃ k:Nat,dI [V.int (d / 2),V.int ((d + ((ps.map λa=>V.ref a.1).length:Int)) / 2)] j=some (V.int (k:Int))/\k < ps.length:=by
    rcases hj with rfl | rfl
    ·obtain ⟨k,hk⟩:=zk (show 0<=d / 2 by omega);exact ⟨k,by rw [<-hk];rfl,by omega⟩
    ·obtain ⟨k,hk⟩:=zk (show 0<=(d + ((ps.map λa=>V.ref a.1).length:Int)) / 2 by omega);refine ⟨k,by rw [<-hk];rfl,?_⟩;rw [zA] at hk;omega
   refine (bw xS ek ?_);refine (zr rfl (bM hx.book rfl (zr rfl (bM hx.meets (xq (v:=V.ref ps[k].1) (by simp [hk])) (bM (hx.rows _ (z6 hk)) rfl ⟨by show 2<=sizeLine;omega,λl9 SM=>?_⟩)))));have g9:=gx.new (o:=HO.lst [V.int 1,V.int 0]) SM;refine (zr rfl ⟨p,zr rfl ⟨by decide,by decide,g9.2,λe H9 e0 e1 oG=>(aH rfl rfl ⟨⟨by decide,by decide⟩,zr rfl (aH rfl rfl ?_)⟩)⟩⟩);have h9:=oG.1 l9 _ (gx.2.ne SM) xS;have tb:=gd.at (z6 hk);have bx:(e / 3=0\/e / 3=1):=by omega
   rcases hj with rfl | rfl <;> rcases bx with bx | bx <;> rw [bx]
   ·exact (bw h9 (by decide:dI [V.int 1,V.int 0] (Builtin.bitXor 0 0)=some (V.int 1)) (aH rfl rfl (q _ _ (by omega) (by omega) (g9.trans oG))))
   ·exact (bw h9 (by decide:dI [V.int 1,V.int 0] (Builtin.bitXor 1 0)=some (V.int 0)) (aH rfl rfl (q _ _ (by omega) (by omega) (g9.trans oG))))
   ·exact (bw h9 (by decide:dI [V.int 1,V.int 0] (Builtin.bitXor 0 1)=some (V.int 0)) (aH rfl rfl (q _ _ (by omega) (by omega) (g9.trans oG))))
   ·exact (bw h9 (by decide:dI [V.int 1,V.int 0] (Builtin.bitXor 1 1)=some (V.int 1)) (aH rfl rfl (q _ _ (by omega) (by omega) (g9.trans oG))))
  ·have gx:=ZV;have hx:=UJ;obtain ⟨k,rfl⟩:=zk d0;have hk:k < ps.length:=by omega
   refine (zr rfl (bM hx.book rfl (zr rfl (bM hx.meets (xq (v:=V.ref ps[k].1) (by simp [hk])) (bM (hx.rows _ (z6 hk)) rfl ⟨by show 2<=sizeLine;omega,λl9 SM=>?_⟩)))));have g9:=gx.new (o:=HO.lst [V.int 1,V.int 0]) SM;refine (zr rfl ⟨p,zr rfl ⟨by decide,by decide,g9.2,λe H9 e0 e1 oG=>(aH rfl rfl ⟨⟨by decide,by decide⟩,zr rfl (aH rfl rfl ?_)⟩)⟩⟩);have h9:=oG.1 l9 _ (gx.2.ne SM) xS;have tb:=gd.at (z6 hk);have bx:(e / 3=0\/e / 3=1):=by omega
   rcases hj with rfl | rfl <;> rcases bx with bx | bx <;> rw [bx]
   ·exact (bw h9 (by decide:dI [V.int 1,V.int 0] (Builtin.bitXor 0 0)=some (V.int 1)) (aH rfl rfl (q _ _ (by omega) (by omega) (g9.trans oG))))
   ·exact (bw h9 (by decide:dI [V.int 1,V.int 0] (Builtin.bitXor 1 0)=some (V.int 0)) (aH rfl rfl (q _ _ (by omega) (by omega) (g9.trans oG))))
   ·exact (bw h9 (by decide:dI [V.int 1,V.int 0] (Builtin.bitXor 0 1)=some (V.int 0)) (aH rfl rfl (q _ _ (by omega) (by omega) (g9.trans oG))))
   ·exact (bw h9 (by decide:dI [V.int 1,V.int 0] (Builtin.bitXor 1 1)=some (V.int 1)) (aH rfl rfl (q _ _ (by omega) (by omega) (g9.trans oG))))
theorem D9:aA ["_law_thing"] ["_law_thing"] (aq Dk):=L2.bf
theorem Cs (T:Tx K mg a ak ai ah)(B:aS mg base):aO P w K mg base bZ 1 a.AC a.Bz ["_law_thing"] (tE):=by
 refine T.A7.ok D9 (λvs H Q E h=>?_) (λbI A outer s H vs Q E hr h=>?_)
 ·obtain ⟨x,t,rfl,_⟩:=h;rfl
 ·have nd:=D9.nd;have hu:=hr.units;obtain ⟨x,t,rfl,ht,k⟩:=h;refine ⟨_,(xP (xp (xh (dF (xg (xy) (by rfl) T.aI zR (xO (xQ (pv 0) (xQ (wY (v:=V.ty "int") rfl T.OT PyProof.Rows.boot_int rfl) xY rfl) rfl))) (dD (K9 (xg (xy) (by rfl) T.aI zR (xO (xQ (pv 0) (xQ (wY (v:=V.ty "bool") rfl T.Mu PyProof.Rows.boot_bool rfl) xY rfl) rfl))))))))),?_⟩;refine (zr rfl ⟨x,t, "int", rfl,ht,.inl rfl,zr rfl ?_⟩);rcases gY ht with rfl | rfl | rfl | rfl | rfl | rfl | rfl <;> first | exact az rfl k | exact aT rfl ⟨_,rfl,x,_, "bool", rfl,ht,.inr (.inl rfl),_,rfl,k⟩
theorem Fh:aA ["thing"] ["thing"] (aq Ej):=L2.bf
theorem HX (T:Tx K mg a ak ai ah)(B:aS mg base):aO P w K mg base bZ 1 a.Bl a.Cj ["thing"] (tE):=by
 refine T.BJ.ok Fh (λvs H Q E h=>?_) (λbI A outer s H vs Q E hr h=>?_)
 ·obtain ⟨x,t,rfl,_⟩:=h;rfl
 ·have nd:=Fh.nd;have hu:=hr.units;obtain ⟨x,t,rfl,ht,k⟩:=h;refine ⟨_,(xP (xp (xh (dF (xg (xy) (by rfl) T.aI zR (xO (xQ (pv 0) (xQ (wY (v:=V.ty "int") rfl T.OT PyProof.Rows.boot_int rfl) xY rfl) rfl))) (dD (K9 (xg (xy) (by rfl) T.aI zR (xO (xQ (pv 0) (xQ (wY (v:=V.ty "bool") rfl T.Mu PyProof.Rows.boot_bool rfl) xY rfl) rfl))))))))),?_⟩;simp only [vG,p7,LR,Kv,RL,ig,LQ,oY,So,rU,rR,uZ,pB,qZ,uK,KD,Ky,M6,Pb,tL,rI,qY,tC,ki,oX,Rb,jM,rj,oZ,Kz,oS,jg,lV,tB,KA,KG,RE,oU,R3,R1,uV,Rg,RU,RV,iQ,Kw,KC,RC,g8,lW,kB,L2.start,zf,yX,ze,yL,Nat.reduceAdd,Nat.reduceSub,List.replicate,xB,xJ,yp,yY,yO,Option.some.injEq,exists_eq_left',exists_eq_left,exists_and_left,and_assoc,V.int.injEq,V.ty.injEq,V.str.injEq,V.bl.injEq,V.ref.injEq,List.cons.injEq,and_true,true_and,yn,yo];simp only [V.ty.injEq,ht,Option.some.injEq,exists_eq_left',exists_and_left,true_or,or_true,true_and];rcases gY ht with rfl | rfl | rfl | rfl | rfl | rfl | rfl <;> simpa [LA] using k
theorem Ev:aA ["thing", "least", "most"] ["thing", "least", "most"] (aq DO):=L2.bf
theorem EF (T:Tx K mg a ak ai ah)(B:aS mg base):aO P w K mg base bZ 2 a.AT a.BN ["thing", "least", "most"] (KH):=by
 have Jt:=HX P w base T B;refine T.Bp.ok Ev (λvs H Q E h=>?_) (λbI A outer s H vs Q E hr h=>?_)
 ·obtain ⟨x,t,lo,hi,rfl,_⟩:=h;rfl
 ·have nd:=Ev.nd;have hu:=hr.units;obtain ⟨x,t,lo,hi,rfl,ht,k⟩:=h;refine ⟨_,(xP (xp (xh (dF (xZ Jt (hr.mono (by decide)) rfl T.IX T.Jc T.Jh .nil av (xO (xQ (pv 0) xY rfl))) (dD (Lb j4 j4 (pv 1) (pv 0) (pv 2))))))),?_⟩;simp only [vG,p7,LR,Kv,RL,ig,LQ,oY,So,rU,rR,uZ,pB,qZ,uK,KD,Ky,M6,Pb,tL,rI,qY,tC,ki,oX,Rb,jM,rj,oZ,Kz,oS,jg,lV,tB,KA,KG,RE,oU,R3,R1,uV,Rg,RU,RV,iQ,Kw,KC,RC,g8,lW,kB,L2.start,zf,yX,ze,yL,Nat.reduceAdd,Nat.reduceSub,List.replicate,xB,xJ,yp,yY,yO,Option.some.injEq,exists_eq_left',exists_eq_left,exists_and_left,and_assoc,V.int.injEq,V.ty.injEq,V.str.injEq,V.bl.injEq,V.ref.injEq,List.cons.injEq,and_true,true_and,yn,yo];refine ⟨x,t,rfl,ht,zr rfl ?_⟩;by_cases h:t = "int"
  ·subst h;obtain ⟨i,rfl⟩:=M1 ht;simp only [vG,p7,LR,Kv,RL,ig,LQ,oY,So,rU,rR,uZ,pB,qZ,uK,KD,Ky,M6,Pb,tL,rI,qY,tC,ki,oX,Rb,jM,rj,oZ,Kz,oS,jg,lV,tB,KA,KG,RE,oU,R3,R1,uV,Rg,RU,RV,iQ,Kw,KC,RC,g8,lW,kB,L2.start,zf,yX,ze,yL,Nat.reduceAdd,Nat.reduceSub,List.replicate,xB,xJ,yp,yY,yO,Option.some.injEq,exists_eq_left',exists_eq_left,exists_and_left,and_assoc,V.int.injEq,V.ty.injEq,V.str.injEq,V.bl.injEq,V.ref.injEq,List.cons.injEq,and_true,true_and,yn,yo];by_cases h1:lo<=i
   ·simpa [h1,oF] using k
   ·simpa [h1,oF] using k
  ·rw [Qg ht h] at k;simpa [h] using k
theorem FG:aA ["thing"] ["thing"] (aq EY):=L2.bf
theorem IU (T:Tx K mg a ak ai ah)(B:aS mg base):aO P w K mg base bZ 3 a.BY a.CN ["thing"] (Pg):=by
 have D3:=EF P w base T B;refine T.Cp.ok FG (λvs H Q E h=>?_) (λbI A outer s H vs Q E hr h=>?_)
 ·obtain ⟨x,t,rfl,_⟩:=h;rfl
 ·have nd:=FG.nd;have hu:=hr.units;obtain ⟨x,t,rfl,ht,k⟩:=h;refine ⟨_,(xP (xp (xh (xZ D3 (hr.mono (by decide)) rfl T.Fm T.Fp T.Fs .nil av (xO (xQ (pv 0) (xQ xR (xQ (nB (v:=V.int 1000000000) rfl T.qi ⟨_,rfl⟩) xY rfl) rfl) rfl)))))),?_⟩;simp only [vG,p7,LR,Kv,RL,ig,LQ,oY,So,rU,rR,uZ,pB,qZ,uK,KD,Ky,M6,Pb,tL,rI,qY,tC,ki,oX,Rb,jM,rj,oZ,Kz,oS,jg,lV,tB,KA,KG,RE,oU,R3,R1,uV,Rg,RU,RV,iQ,Kw,KC,RC,g8,lW,kB,L2.start,zf,yX,ze,yL,Nat.reduceAdd,Nat.reduceSub,List.replicate,xB,xJ,yp,yY,yO,Option.some.injEq,exists_eq_left',exists_eq_left,exists_and_left,and_assoc,V.int.injEq,V.ty.injEq,V.str.injEq,V.bl.injEq,V.ref.injEq,List.cons.injEq,and_true,true_and,yn,yo];exact ⟨x,t,kT rfl ⟨ht,k⟩⟩
theorem Fi:aA ["number", "bound"] ["number", "bound"] (aq Ek):=L2.bf
theorem HY (T:Tx K mg a ak ai ah)(B:aS mg base):aO P w K mg base bZ 1 a.Bm a.Ck ["number", "bound"] (Nc):=by
 refine T.BK.ok Fi (λvs H Q E h=>?_) (λbI A outer s H vs Q E hr h=>?_)
 ·obtain ⟨o,t,rfl,_⟩:=h;rfl
 ·have nd:=Fi.nd;have hu:=hr.units;obtain ⟨o,t,rfl,q⟩:=h;refine ⟨_,(xP (xp (xh (dF (jZ (fU (pv 0))) (dD (dW jj (pv 0) (pv 1) (aB _))))))),?_⟩;cases o with
  | none=>exact (zr rfl (zr rfl (az rfl q)))
  | some y=>exact (zr rfl (zr rfl (aT rfl (zr rfl (zr rfl (aH rfl rfl q))))))
theorem FF:aA ["number", "bound"] ["number", "bound"] (aq EX):=L2.bf
theorem IT (T:Tx K mg a ak ai ah)(B:aS mg base):aO P w K mg base bZ 1 a.BX a.CM ["number", "bound"] (Pf):=by
 refine T.Co.ok FF (λvs H Q E h=>?_) (λbI A outer s H vs Q E hr h=>?_)
 ·obtain ⟨o,t,rfl,_⟩:=h;rfl
 ·have nd:=FF.nd;have hu:=hr.units;obtain ⟨o,t,rfl,q⟩:=h;refine ⟨_,(xP (xp (xh (dF (jZ (fU (pv 0))) (dD (dW j4 (pv 0) (pv 1) (aB _))))))),?_⟩;cases o with
  | none=>exact (zr rfl (zr rfl (az rfl q)))
  | some y=>exact (zr rfl (zr rfl (aT rfl (zr rfl (zr rfl (aH rfl rfl q))))))
theorem Ew:aA ["book", "thing"] ["book", "thing"] (aq DP):=L2.bf
theorem GY (T:Tx K mg a ak ai ah)(B:aS mg base):aO P w K mg base bZ 3 a.AU a.BO ["book", "thing"] (rK):=by
 have D3:=EF P w base T B;refine T.Bq.ok Ew (λvs H Q E h=>?_) (λbI A outer s H vs Q E hr h=>?_)
 ·obtain ⟨b,x,t,_,_,_,_,rfl,_⟩:=h;rfl
 ·have nd:=Ew.nd;have hu:=hr.units;obtain ⟨b,x,t,aa,tr,tm,ps,rfl,hb,ht,q⟩:=h;refine ⟨_,(xP (xp (xh (xZ D3 (hr.mono (by decide)) rfl T.Fm T.Fp T.Fs .nil av (xO (xQ (pv 1) (xQ xR (xQ (xj cI (xg (xf rfl) (by rfl) T.aU PySem.boot_len (xO (xQ (xc (xi rfl) (pv 0) xR (λ_ _=>rfl)) xY rfl))) xR) xY rfl) rfl) rfl)))))),?_⟩;refine (zr rfl (zr rfl (bM hb.book rfl ⟨tr,zr rfl ⟨.inr (bq.of hb.aa),aH rfl rfl ⟨x,t,kT rfl ⟨ht,?_⟩⟩⟩⟩)));rw [zA];exact q
theorem FH:aA ["book", "time"] ["book", "time"] (aq D4):=L2.bf
theorem FK (T:Tx K mg a ak ai ah)(B:aS mg base):aO P w K mg base bZ 1 a.BZ a.CO ["book", "time"] (o8):=by
 refine T.Cq.ok FH (λvs H Q E h=>?_) (λbI A outer s H vs Q E hr h=>?_)
 ·obtain ⟨b,t,_,_,_,_,rfl,_⟩:=h;rfl
 ·have nd:=FH.nd;have hu:=hr.units;obtain ⟨b,t,aa,tr,tm,ps,rfl,hb,hn,q⟩:=h;refine ⟨_,(xP (xp (xh (xg (xf rfl) (by rfl) T.aU PySem.boot_len (xO (xQ (wu (own:=["meeting"]) (caps:=[1]) rfl (show aM ["meeting"] [1] ["book", "time"] (aq D4) _ from L2.i6) (fz rfl (xc (xi rfl) (pv 0) xR (λ_ _=>rfl))) (λ_ _ _ _=>(xW (i:=0) (show List.Nodup (["meeting", "time"]:List Str) from by decide +kernel) rfl rfl)) (λ_ _ _ _=>nk (xo j4 (xc (xi rfl) (pv 0) xR (λ_ _=>rfl)) (pv 1) (aB _))) (λ_ _ _ _=>(pv 0))) xY rfl)))))),?_⟩;refine (zr rfl (bM hb.book rfl ⟨tm,rfl,⟨_,bq.of hb.meets⟩,?_⟩));refine (let W3:IC:=λi τ acc H5=>(∃ t0,τ=[t0,some (.int t)])/\acc.length=cnt ((ps.map (·.2)).take i) t/\acc.length<=i/\au H H5;kD (K:=K) (a:=tm) (xs:=ps.map λa=>V.ref a.1) W3)
   ?_ (by rw [zA];omega) ?_ ?_ ?_
  ·exact ⟨⟨_,rfl⟩,rfl,zE _,au.refl _⟩
  ·rintro i τ acc H5 ⟨⟨t0,rfl⟩,_,le,sm⟩;exact ⟨le,bq.of (sm _ _ hb.meets)⟩
  ·rintro i x τ acc H5 C hx ⟨⟨t0,rfl⟩,ec,le,sm⟩ hC;obtain ⟨r,hr,rfl⟩:=xz hx;have eV:=sm _ _ (hb.rows r (zB hr));have hm:(ps.map (·.2))[i]?=some r.2:=by rw [zD,hr];rfl
   refine (zr rfl (bM eV rfl (zr rfl (aH rfl rfl (zr rfl (cY (λc=>(zr rfl (hC _ _ _ ?_))) (λc=>hC _ _ _ ?_)))))))
   ·exact ⟨⟨_,rfl⟩,by rw [iE hm,if_pos c,zN,ec];rfl,by rw [zN];exact xC le,sm⟩
   ·exact ⟨⟨_,rfl⟩,by rw [iE hm,if_neg c,ec];rfl,by omega,sm⟩
  ·rintro τ acc H5 ⟨⟨t0,rfl⟩,ec,le,sm⟩ l hl;have e:(ps.map λa=>V.ref a.1).length=(ps.map (·.2)).length:=by simp
   rw [e,zv] at ec;refine ⟨l,zr rfl ⟨.inl (aG.of xS),?_⟩⟩;rw [ec];exact q _ (sm.trans (xU hl))
theorem Jx:aA ["book", "told", "number", "one", "other", "when", "many"] ["book"] (aq EW):=L2.bf
theorem JX (T:Tx K mg a ak ai ah)(B:aS mg base):aO P w K mg base bZ 1 a.D2 a.Fa ["book"] (Pe):=by
 refine T.Eu.ok Jx (λvs H Q E h=>?_) (λbI A outer s H vs Q E hr h=>?_)
 ·obtain ⟨b,_,_,_,_,rfl,_⟩:=h;rfl
 ·have nd:=Jx.nd;have hu:=hr.units;obtain ⟨b,aa,tr,tm,ps,rfl,hb,gd,q⟩:=h;refine bT ?_;intro Y
  let B0:Bk Y ((nb (aj EW) 1).drop 1):=⟨_,(xP (xp (wf (di zU zZ za wL (pv 1) (xO (xQ (wB (xO (xQ (pv 2) (xQ (pv 4) (xQ (pv 3) (xQ (pv 5) xY rfl) rfl) rfl) rfl))) xY rfl))))))⟩
  let B1:Bk Y (nb (aj EW) 1):=⟨_,(xP (xl (wf (di zU zZ za wL (pv 1) (xO (xQ (wB (xO (xQ (pv 2) (xQ (pv 3) (xQ (pv 4) (xQ (pv 5) xY rfl) rfl) rfl) rfl))) xY rfl)))) B0.bl))⟩
  let B2:Bk Y ((aj EW).drop 1):=⟨_,(xP (xl (wF PassesOwn.never rfl (pH rfl rfl T.bV (xO (xQ (xc (xi rfl) (pv 0) xR (λ_ _=>rfl)) xY rfl))) (xw (n:=2) rfl rfl (xV (xW (i:=2) nd rfl rfl) (xV (xw (n:=4) rfl rfl (xV (xW (i:=3) nd rfl rfl) (xV (xW (i:=4) nd rfl rfl) (xV (xW (i:=5) nd rfl rfl) (xV (xW (i:=6) nd rfl rfl) xv))))) xv))) B1.ps) (xp (xh (pv 1)))))⟩
  refine ⟨_,(xP (xl (xn (i:=1) nd rfl rfl (wI cg)) B2.bl)),?_⟩;have line:=bE;have Y5:=gd.len;refine ⟨zc _,λl hl=>?_⟩;have iZ:=hb.same (xU (o:=HO.lst []) hl);refine (zr rfl (bM iZ.book rfl ⟨tm,rfl,⟨_,bq.of iZ.meets⟩,?_⟩));refine (let W4:IV:=λi σ H4=>(∃ v2 v3 v4 v5 v6,σ=[some (.ref b),some (.ref l),v2,v3,v4,v5,v6])/\au H H4/\∃ ws:List (Addr×W4),H4 l=some (.lst (ws.map λa=>V.ref a.1))/\(∀ a∈ws,H4 a.1=some (.tup a.2.vs))/\ws.map (·.2)=cU (ps.map (·.2)) i/\ws.length=2 * i;mH (K:=K) (a:=tm) (xs:=ps.map λa=>V.ref a.1) W4)
   ⟨⟨_,_,_,_,_,rfl⟩,xU hl,[],xS,(λ_ z=>nomatch z),rfl,rfl⟩ (λi σ H4 _ h4=>bq.of ((hb.same h4.2.1).meets)) ?_ ?_
  ·rintro i x q' σ H4 hx hq ⟨⟨v2,v3,v4,v5,v6,rfl⟩,sm,ws,h4,hr,ew,lw⟩;obtain ⟨r,vC,rfl⟩:=xz hx;have hi:i < ps.length:=(zC.mp vC).1;have hm:(ps.map (·.2))[i]?=some r.2:=by rw [zD,vC];rfl
   obtain ⟨a1,a2,a3,a4,a5,_⟩:=gd.at (zB vC);have uT:=sm.trans (xU (o:=HO.tup [.int i,.ref r.1]) hq);have eV:=(hb.same uT).rows r (zB vC);have h5:=(xU (o:=HO.tup [.int i,.ref r.1]) hq) _ _ h4;refine ⟨q',zr rfl ⟨bq.of xS,rfl,kT rfl (kT rfl (Kq eV ⟨rfl,?_⟩))⟩⟩;refine (zr rfl ⟨.inl ⟨rfl,_,aG.of h5⟩,zr rfl (zr rfl (zr rfl (zr rfl ⟨by show 4<=sizeLine;omega,λt1 kU=>⟨l,aH rfl rfl ⟨xU kU _ _ h5,by rw [zA];omega,?_⟩⟩⟩)))⟩);have n1:t1≠l:=(xT h5 kU).symm;refine (zr rfl ⟨.inl ⟨rfl,_,aG.of xS⟩,zr rfl (zr rfl (zr rfl (zr rfl ⟨by show 4<=sizeLine;omega,λt2 lE=>⟨l,aH rfl rfl ⟨xU lE _ _ xS,by rw [zN,zA];show ws.length + 1 < sizeLine;omega,?_⟩⟩⟩)))⟩);have n2:t2≠l:=λz=>by rw [z,xS] at lE;cases lE
   have n12:t1≠t2:=λz=>by rw [<-z,xX n1,xS] at lE;cases lE
   have e1:(r.2.lo.toNat:Int)=r.2.lo:=yS a1;have e2:(r.2.hi.toNat:Int)=r.2.hi:=yS (by omega);have vW:au H (upd (upd (upd (upd (upd H4 q' (.tup [.int i,.ref r.1])) t1 (.tup [.int i,.int r.2.lo,.int r.2.hi,.int r.2.t])) l (.lst ((ws.map λa=>V.ref a.1)++[.ref t1]))) t2 (.tup [.int i,.int r.2.hi,.int r.2.lo,.int r.2.t])) l (.lst ((ws.map λa=>V.ref a.1)++[.ref t1]++[.ref t2]))):=
    au.put hl ((au.put hl (uT.trans (xU kU))).trans (xU lE))
   refine ⟨⟨_,_,_,_,_,rfl⟩,vW,ws++[(t1,⟨i,⟨r.2.lo.toNat,r.2.hi.toNat,r.2.t⟩⟩),(t2,⟨i,⟨r.2.hi.toNat,r.2.lo.toNat,r.2.t⟩⟩)],?_,λa ha=>?_,?_,?_⟩
   ·rw [xS,zG,List.append_assoc];rfl
   ·rcases zT.mp ha with h | h
    ·have:=hr a h;have na:a.1≠l:=bY this h4 (by intro z;cases z);have b1:=xU (o:=HO.tup [.int i,.ref r.1]) hq _ _ this;have b2:=xU (o:=HO.tup [.int i,.int r.2.lo,.int r.2.hi,.int r.2.t]) kU _ _ b1;rw [xX na];exact xU lE _ _ (by rw [xX na];exact b2)
    ·simp only [zK,zj,or_false] at h;rcases h with rfl | rfl
     ·rw [xX n1];refine xU lE _ _ ?_;rw [xX n1,xS];show _=some (HO.tup [.int i,.int (r.2.lo.toNat:Int),.int (r.2.hi.toNat:Int),.int r.2.t]);rw [e1,e2]
     ·rw [xX n2,xS];show _=some (HO.tup [.int i,.int (r.2.hi.toNat:Int),.int (r.2.lo.toNat:Int),.int r.2.t]);rw [e1,e2]
   ·rw [zG,ew,jJ hm];rfl
   ·rw [zN,lw];show 2 * i + 2=_;omega
  ·rintro σ H4 ⟨⟨v2,v3,v4,v5,v6,rfl⟩,sm,ws,h4,hr,ew,lw⟩;rw [zA] at ew;exact (zr rfl (q l ws _ hl sm h4 hr ew))
theorem Ff:aA ["book", "number", "walker", "one", "other", "when", "many"] ["book", "number", "walker"] (aq Ei):=L2.bf
theorem Fl (T:Tx K mg a ak ai ah)(B:aS mg base):aO P w K mg base bZ 1 a.Bi a.Ch ["book", "number", "walker"] (uO):=by
 refine T.BH.ok Ff (λvs H Q E h=>?_) (λbI A outer s H vs Q E hr h=>?_)
 ·obtain ⟨b,k,v,_,_,_,_,_,rfl,_⟩:=h;rfl
 ·have nd:=Ff.nd;have hu:=hr.units;obtain ⟨b,k,v,aa,tr,tm,ps,m,rfl,hb,hm,q⟩:=h;refine ⟨_,(xP (xl (wd (xc (xi rfl) (xc (xi rfl) (pv 0) xR (λ_ _=>rfl)) (pv 1) (λ_ _=>rfl)) (xw (n:=4) rfl rfl (xV (xW (i:=3) nd rfl rfl) (xV (xW (i:=4) nd rfl rfl) (xV (xW (i:=5) nd rfl rfl) (xV (xW (i:=6) nd rfl rfl) xv)))))) (xp (xh (iu (xo qH (pv 2) (pv 3) (aB _)) (pv 4) (pv 3)))))),?_⟩;have hk:k < ps.length:=by
   have:=(zC.mp hm).1;simpa using this
  have em:ps[k].2=m:=by
   rw [zD,zF hk] at hm;exact Option.some.inj hm
  have eV:=hb.rows _ (z6 hk);rw [em] at eV;refine (zr rfl (bM hb.book rfl (zr rfl (bM hb.meets (xq (v:=V.ref ps[k].1) (by simp [hk])) (Kq eV ?_)))));refine (zr rfl (zr rfl ⟨rfl,zr rfl (cY (λc=>?_) (λc=>?_))⟩))
  ·rw [if_pos (V.int.inj c)] at q;exact (zr rfl q)
  ·rw [if_neg λz=>c (by rw [z])] at q;exact (zr rfl q)
theorem Fg:aA ["book", "walker", "number"] ["book", "walker", "number"] (aq Dj):=L2.bf
theorem HW (T:Tx K mg a ak ai ah)(B:aS mg base):aO P w K mg base bZ 1 a.Bj a.Ci ["book", "walker", "number"] (Pk):=by
 refine T.BI.ok Fg (λvs H Q E h=>?_) (λbI A outer s H vs Q E hr h=>?_)
 ·obtain ⟨b,k,x,_,_,_,_,rfl,_⟩:=h;rfl
 ·have nd:=Fg.nd;have hu:=hr.units;obtain ⟨b,k,x,aa,tr,tm,ps,rfl,hb,hn,q⟩:=h;refine ⟨_,(xP (xp (xh (wu (own:=["other"]) (caps:=[2,1]) rfl (show aM ["other"] [2,1] ["book", "walker", "number"] (aq Dj) _ from L2.i6) (wZ rfl T.bL (xO (xQ (xg (xf rfl) (by rfl) T.aU PySem.boot_len (xO (xQ (xc (xi rfl) (pv 0) xR (λ_ _=>rfl)) xY rfl))) xY rfl))) (λ_ _ _ _=>(xW (i:=0) (show List.Nodup (["other", "number", "walker"]:List Str) from by decide +kernel) rfl rfl)) (λ_ _ _ _=>cA) (λ_ _ _ _=>(iu (xo qH (pv 0) (pv 2) (aB _)) (pv 1) cG)))))),?_⟩;refine (zr rfl (bM hb.book rfl ⟨tr,zr rfl ⟨.inr (bq.of hb.aa),zr rfl ⟨by rw [zA];omega,by rw [zA];omega,?_⟩⟩⟩));refine (let W5:IC:=λi τ acc H5=>(∃ t0,τ=[t0,some (.int x),some (.int k)])/\acc=(rep i (aE k x)).map oV/\H5=H;gO (lo:=0) (m:=(aa.map V.int).length) W5 ?_ (by rw [zA];omega) ?_ ?_ ?_)
  ·exact ⟨⟨_,rfl⟩,rfl,rfl⟩
  ·rintro i τ acc H5 ⟨⟨t0,rfl⟩,rfl,rfl⟩;rw [zA,wg];exact zE _
  ·rintro i τ acc H5 C hi ⟨⟨t0,rfl⟩,rfl,rfl⟩ hC;have snoc:∀ v,oV (aE k x i)=v->(rep i (aE k x)).map oV++[v]=(rep (i + 1) (aE k x)).map oV:=λv e=>by
    unfold rep;rw [List.range_succ,zG,zG,<- e];rfl
   refine (zr rfl (zr rfl ⟨rfl,zr rfl (cY (λc=>(zr rfl (hC _ _ _ ⟨⟨_,rfl⟩,snoc _ ?_,rfl⟩))) (λc=>hC _ _ _ ⟨⟨_,rfl⟩,snoc _ ?_,rfl⟩))⟩))
   ·have:i=k:=by have:=V.int.inj c;omega
    unfold aE;rw [if_pos this];rfl
   ·have:i≠k:=λz=>c (by rw [z];simp);unfold aE;rw [if_neg this];rfl
  ·rintro τ acc H5 ⟨⟨t0,rfl⟩,rfl,rfl⟩ l hl;rw [zA];exact q l _ hl (xU hl) xS
theorem GK:aA ["wishes"] ["wishes"] (aq FJ):=L2.bf
theorem GM (T:Tx K mg a ak ai ah)(B:aS mg base):aO P w K mg base bZ 1 a.CD a.Di ["wishes"] (Nf):=by
 refine T.CZ.ok GK (λvs H Q E h=>?_) (λbI A outer s H vs Q E hr h=>?_)
 ·obtain ⟨_,_,_,rfl,_⟩:=h;rfl
 ·have nd:=GK.nd;have hu:=hr.units;obtain ⟨l,ws,n,rfl,hw,h60,q⟩:=h;refine ⟨_,(xP (xp (xh (xj cI (xj j3 xR (xg (xf rfl) (by rfl) T.aU PySem.boot_len (xO (xQ (pv 0) xY rfl)))) xR)))),?_⟩;refine (zr rfl ⟨l,zr rfl ⟨.inl (aG.of hw.1),aH rfl rfl ⟨⟨yW _,by rw [zA];omega,by decide⟩,aH rfl rfl ?_⟩⟩⟩);rw [zA,ia];exact q
theorem DE:aA ["some", "number"] ["some", "number"] (aq CS):=L2.bf
theorem Fw (T:Tx K mg a ak ai ah)(B:aS mg base):aO P w K mg base bZ 1 a.Am a.AR ["some", "number"] (KN):=by
 refine T.Av.ok DE (λvs H Q E h=>?_) (λbI A outer s H vs Q E hr h=>?_)
 ·obtain ⟨_,_,rfl,_⟩:=h;rfl
 ·have nd:=DE.nd;have hu:=hr.units;obtain ⟨s,k,rfl,k60,q⟩:=h;refine ⟨_,(xP (xp (xh (xj cI (pv 0) (xj nE (pv 0) (xj j3 xR (pv 1))))))),?_⟩;refine (zr rfl (zr rfl (zr rfl (aH rfl rfl ⟨⟨yW _,by omega,by decide⟩,aH rfl rfl (aH rfl rfl ?_)⟩))));rw [ia];show Q (V.int ((s:Int) - Builtin.bitAnd (s:Int) (((2 ^ k:Nat):Int)))) H;rw [NL];exact q
theorem GI:aA ["some"] ["some"] (aq EE):=L2.bf
theorem GL (T:Tx K mg a ak ai ah)(B:aS mg base):aO P w K mg base bZ 1 a.CB a.Dg ["some"] (KL):=by
 refine T.CW.ok GI (λvs H Q E h=>?_) (λbI A outer s H vs Q E hr h=>?_)
 ·obtain ⟨_,rfl,_⟩:=h;rfl
 ·have nd:=GI.nd;have hu:=hr.units;obtain ⟨s,rfl,aat,q⟩:=h;refine ⟨_,(xP (xp (xh (wu (own:=["part"]) (caps:=[0]) rfl (show aM ["part"] [0] ["some"] (aq EE) _ from L2.i6) (wZ rfl T.bL (xO (xQ (xj xu (pv 0) xR) xY rfl))) (λ_ _ _ _=>(xW (i:=0) (show List.Nodup (["part", "some"]:List Str) from by decide +kernel) rfl rfl)) (λ_ _ _ _=>nk (xo qH (xj nE (pv 0) (pv 1)) (pv 0) (aB _))) (λ_ _ _ _=>(wB (xO (xQ (pv 0) (xQ (xj cI (pv 1) (pv 0)) xY rfl) rfl)))))))),?_⟩;have line:=bE;refine (zr rfl (aH rfl rfl (zr rfl ?_)));rw [show (s:Int) + 1=((s + 1:Nat):Int) from rfl];refine ⟨by omega,by omega,?_⟩;rw [zm];refine (let W6:IC:=λi τ acc H5=>(∃ t0,τ=[t0,some (.int (s:Int))])/\au H H5/\∃ rs:List (Addr×Nat×Nat),acc=rs.map (λr=>V.ref r.1)/\(∀ r∈rs,H5 r.1=some (.tup [.int (r.2.1:Int),.int (r.2.2:Int)]))/\rs.map (·.2)=(((List.range (s + 1)).take i).filter λp=>p &&& s == p).map λp=>(p,s - p);gO (lo:=0) (m:=s + 1) W6 ⟨⟨_,rfl⟩,au.refl _,[],rfl,(λ_ z=>nomatch z),rfl⟩ (by omega) ?_ ?_ ?_)
  ·rintro i τ acc H5 ⟨_,_,rs,rfl,_,e⟩;rw [zA];have:=congrArg List.length e;rw [zA,zA] at this;have z:=List.length_filter_le (λp:Nat=>p &&& s == p) ((List.range (s + 1)).take i);rw [zu] at z;omega
  ·rintro i τ acc H5 C hi ⟨⟨t0,rfl⟩,sm,rs,rfl,hr,e⟩ hC;have st:=wM (l:=List.range (s + 1)) (i:=i) (r:=i) (by rw [List.getElem?_range hi]);refine (zr rfl (zr rfl (aH rfl rfl (zr rfl ⟨rfl,?_⟩))));rw [xM];refine (zr rfl ?_);show if decide (V.int (Builtin.bitAnd (i:Int) (s:Int))=V.int (i:Int))=true then _ else _;rw [iH];by_cases e1:i &&& s=i
   ·refine aT (decide_eq_true (by rw [e1])) (zr rfl (zr rfl (zr rfl (aH rfl rfl ⟨by show 2<=sizeLine;omega,λt ht=>?_⟩))));refine hC _ _ _ ⟨⟨_,rfl⟩,sm.trans (xU ht),rs++[(t,i,s - i)],by rw [zG];rfl,λr qz=>?_,?_⟩
    ·rcases zT.mp qz with h | h
     ·exact xU ht _ _ (hr r h)
     ·cases zP.mp h;rw [xS,show ((s - i:Nat):Int)=(s:Int) - (i:Int) by omega]
    ·rw [st,List.filter_append,zG,zG,e];simp [e1]
   ·refine az (decide_eq_false (λz=>e1 (Int.ofNat.inj (V.int.inj z)))) (hC _ _ _ ⟨⟨_,rfl⟩,sm,rs,rfl,hr,?_⟩);rw [st,List.filter_append,zG,e];simp [e1]
  ·rintro τ acc H5 ⟨⟨t0,rfl⟩,sm,rs,rfl,hr,e⟩ lc kW;have s2:=xU (o:=HO.lst (rs.map λr=>V.ref r.1)) kW;refine q lc rs _ (sm.trans s2) xS (λr h=>s2 _ _ (hr r h)) ?_;rw [e,List.take_of_length_le (by rw [yJ];exact zE _)];rfl
theorem Ex:aA ["book", "thing", "sender", "since", "wish", "last"] ["book", "thing"] (aq Cw):=L2.bf
theorem GZ (T:Tx K mg a ak ai ah)(B:aS mg base):aO P w K mg base bZ 4 a.AV a.BP ["book", "thing"] (rL):=by
 have GX:=IU P w base T B;have Fu:=GY P w base T B;refine T.Br.ok Ex (λvs H Q E h=>?_) (λbI A outer s H vs Q E hr h=>?_)
 ·obtain ⟨b,x,r,_,_,_,_,rfl,_⟩:=h;rfl
 ·have nd:=Ex.nd;have hu:=hr.units;obtain ⟨b,x,r,aa,tr,tm,ps,rfl,hb,th,q⟩:=h;refine bT ?_;intro Y
  let B0:Bk Y ((aj Cw).drop 2):=⟨_,(xP (xp (xh (dF (xZ Fu (hr.mono (by decide)) rfl T.Fo T.Fq T.Ft .nil av (xO (xQ (pv 0) (xQ (pv 2) xY rfl) rfl))) (dF (xZ GX (hr.mono (by decide)) rfl T.GN T.GQ T.GT .nil av (xO (xQ (pv 3) xY rfl))) (dF (xZ Fu (hr.mono (by decide)) rfl T.Fo T.Fq T.Ft .nil av (xO (xQ (pv 0) (xQ (pv 4) xY rfl) rfl))) (dD (xZ GX (hr.mono (by decide)) rfl T.GN T.GQ T.GT .nil av (xO (xQ (pv 5) xY rfl))))))))))⟩
  let B1:Bk Y ((aj Cw).drop 1):=⟨_,(xP (xl (wd (pv 1) (xw (n:=4) rfl rfl (xV (xW (i:=2) nd rfl rfl) (xV (xW (i:=3) nd rfl rfl) (xV (xW (i:=4) nd rfl rfl) (xV (xW (i:=5) nd rfl rfl) xv)))))) B0.bl))⟩
  refine ⟨_,(xP (xl (xt (@PW.pt _ _ _ (wl (wJ (wE (xg (xy) (by rfl) T.aI zR (xO (xQ (pv 1) (xQ (wY (v:=V.ty "tuple") rfl T.d9 yB rfl) xY rfl) rfl))))) (wc (xo eS (xg (xf rfl) (by rfl) T.aU PySem.boot_len (xO (xQ (pv 1) xY rfl))) xR (aB _))))) (xP (xp (xh wV))) xk) B1.bl)),?_⟩;rcases th with ⟨t,ht,nt,rfl⟩ | ⟨l,xs,rfl,hl,hx,rfl⟩
  ·refine (zr rfl ⟨x,t, "tuple", rfl,ht,.inr (.inr (.inr rfl)),zr rfl ?_⟩);refine aT ?_ (aT rfl q);rcases gY ht with rfl | rfl | rfl | rfl | rfl | rfl | rfl <;> first | rfl | exact absurd rfl nt
  ·refine (zr rfl ⟨_, "tuple", "tuple", rfl,fO hl,.inr (.inr (.inr rfl)),zr rfl (az rfl ?_)⟩);refine (zr rfl ⟨l,zr rfl ⟨.inr (bq.of hl),rfl,zr rfl ?_⟩⟩);by_cases h4:xs.length=4
   ·obtain ⟨x0,x1,x2,x3,rfl⟩:=N7 h4;obtain ⟨t0,h0⟩:=hx x0 (by simp);obtain ⟨t1,h1⟩:=hx x1 (by simp);obtain ⟨t2,h2⟩:=hx x2 (by simp);obtain ⟨t3,h3⟩:=hx x3 (by simp);refine az (by simp) ?_;refine (zr rfl (Kq hl ?_));have q:Q (.bl (oF 0 ((aa.length:Int) - 1) x0 && (oF 0 1000000000 x1 && (oF 0 ((aa.length:Int) - 1) x2 && oF 0 1000000000 x3)))) H:=q;refine (zr rfl (zr rfl (vI b x0 t0 aa tr tm ps ⟨rfl,hb,h0,zr rfl (pU (λc0=>?_) (λc0=>by rw [c0] at q;exact q))⟩)));refine (zr rfl ⟨x1,t1,rfl,h1,zr rfl (pU (λc1=>?_) (λc1=>by rw [c0,c1] at q;exact q))⟩);refine (zr rfl (zr rfl (vI b x2 t2 aa tr tm ps ⟨rfl,hb,h2,zr rfl (pU (λc2=>?_) (λc2=>by rw [c0,c1,c2] at q;exact q))⟩)));refine (zr rfl ⟨x3,t3,rfl,h3,?_⟩);rw [c0,c1,c2] at q;exact q
   ·refine aT ?_ ?_
    ·have:¬ V.int (xs.length:Int)=V.int 4:=λz=>h4 (by have:=V.int.inj z;omega);simp [this]
    ·have:isLet (aa.length:Int) (some xs)=false:=by
      unfold isLet;split
      ·rename_i e;cases e;simp at h4
      ·rfl
     rw [this] at q;exact q
theorem Db:aA ["book", "sender", "since", "times", "came", "number", "giver", "other", "when"] ["book", "sender", "since"] (aq wN):=L2.bf
theorem De (T:Tx K mg a ak ai ah)(B:aS mg base):aO P w K mg base bZ 2 a.Ai a.Ax ["book", "sender", "since"] (KO):=by
 have Ju:=HY P w base T B;have Kc:=JX P w base T B;have Js:=HW P w base T B;refine T.Ap.ok Db (λvs H Q E h=>?_) (λbI A outer s H vs Q E hr h=>?_)
 ·obtain ⟨b,k,x,_,_,_,_,rfl,_⟩:=h;rfl
 ·have nd:=Db.nd;have hu:=hr.units;obtain ⟨b,k,x,aa,tr,tm,ps,rfl,hb,hn,gd,q⟩:=h;refine bT ?_;intro Y
  let B0:Bk Y (nb (nb (aj wN) 2) 0):=⟨_,(xP (xl (wd (pv 8) (fB (pv 3) (pv 7) qI)) (xp (Nr (z4 (Nat.add_le_add_left (by decide) _) hu) (pv 4) (pv 7) (wB (xO (xQ (pv 5) (xQ (pv 6) xY rfl) rfl))) rfl))))⟩
  let B1:Bk Y (nb (aj wN) 2):=⟨_,(xP (xp (xt (@PW.pt _ _ _ (fk (b9 (cH (xc (xb rfl) (pv 3) (pv 7) (λ_ _=>rfl)))) (dU (wE (xZ Ju (hr.mono (by decide)) rfl T.IY T.Jd T.Ji .nil av (xO (xQ (xc (xb rfl) (pv 3) (pv 6) (λ_ _=>rfl)) (xQ (pv 8) xY rfl) rfl))))))) B0.ps xk)))⟩
  let B2:Bk Y ((aj wN).drop 2):=⟨_,(xP (xl (wF PassesOwn.never rfl (wP rfl (xZ Kc (hr.mono (by decide)) rfl T.J8 T.J9 T.Ka .nil av (xO (xQ (pv 0) xY rfl)))) (xw (n:=4) rfl rfl (xV (xW (i:=5) nd rfl rfl) (xV (xW (i:=6) nd rfl rfl) (xV (xW (i:=7) nd rfl rfl) (xV (xW (i:=8) nd rfl rfl) xv))))) B1.ps) (xp (xh (wB (xO (xQ (pv 3) (xQ (pv 4) xY rfl) rfl)))))))⟩
  refine ⟨_,(xP (xl (xn (i:=3) nd rfl rfl (xZ Js (hr.mono (by decide)) rfl T.IW T.Jb T.Jg .nil av (xO (xQ (pv 0) (xQ (pv 1) (xQ (pv 2) xY rfl) rfl) rfl)))) (xl (xn (i:=4) nd rfl rfl La) B2.bl))),?_⟩;have line:=bE;have Y5:=gd.len;refine (zr rfl (zr rfl (zr rfl (vI b k x aa tr tm ps ⟨rfl,hb,hn,λl H1 hl uT h1=>?_⟩))));refine λd hd=>?_;have Us:d≠l:=(xT h1 hd).symm;have RQ:=uT.trans (xU (o:=HO.dK []) hd);have hfd:H d=none:=uT.free hd;refine (zr rfl (ex5 b aa tr tm ps ⟨rfl,hb.same RQ,gd,λlw ws H2 Zk vW h2 hr ew=>?_⟩));have ZS:=vW _ _ (xU (o:=HO.dK []) hd _ _ h1);have N4:=vW _ _ (xS (H:=H1) (a:=d) (o:=HO.dK []));have QK:(ws.map (·.2)).map (·.w)=aV (ps.map (·.2)):=by
   have:=uE (ps.map (·.2));rw [zA] at this;rw [ew,this]
  have lws:ws.length=2 * ps.length:=by
   have:=congrArg List.length QK;rw [zA,zA,uF,zA] at this;exact this
  have nwl:lw≠l:=(xT (xU (o:=HO.dK []) hd _ _ h1) Zk).symm;have nwd:lw≠d:=(xT (xS (H:=H1) (a:=d) (o:=HO.dK [])) Zk).symm;refine ⟨lw,rfl,⟨_,aG.of h2⟩,?_⟩;refine (let W7:IV:=λi σ H4=>(∃ v5 v6 v7 v8,σ=[some (.ref b),some (.int k),some (.int x),some (.ref l),some (.ref d),v5,v6,v7,v8])/\au H H4/\H4 l=some (.lst ((rep aa.length (((ws.take i).map (·.2.w)).foldl aJ (aE k x))).map oV))/\(∃ aF,H4 d=some (.dK aF)/\aF.length<=i/\lN (ps.map (·.2)) k (((ws.take i).map (·.2.w)).foldl aJ (aE k x)) aF H4)/\(∀ b u,b≠l->b≠d->H2 b=some u->H4 b=some u);cF (K:=K) (a:=lw) (xs:=(ws.map λa=>V.ref a.1)) W7)
   ?_ ?_ ?_ ?_
  ·exact ⟨⟨_,_,_,_,rfl⟩,RQ.trans vW,ZS,⟨[],N4,zE _,λo t h=>.inl (by have h:aE k x o=some t:=h;unfold aE at h;split at h;assumption;cases h)⟩,λ_ _ _ _ e=>e⟩
  ·rintro i σ H4 _ ⟨_,_,_,_,kp⟩;exact aG.of (kp lw _ nwl nwd h2)
  ·rintro i y σ H4 hy ⟨⟨v5,v6,v7,v8,rfl⟩,oB,h4,⟨aF,QC,lk,cm⟩,kp⟩;obtain ⟨r,vC,rfl⟩:=xz hy;have hi:i < ws.length:=(zC.mp vC).1;have rm:r∈ws:=zB vC;have LF:=hr r rm;have nl:r.1≠l:=bY LF ZS (by intro z;cases z);have nd2:r.1≠d:=bY LF N4 (by intro z;cases z);have eV:=kp r.1 _ nl nd2 LF;have wm:r.2.w∈aV (ps.map (·.2)):=by
    rw [<-QK];exact zQ.mpr ⟨r.2,zQ.mpr ⟨r,rm,rfl⟩,rfl⟩
   obtain ⟨g1,g2,g3,g4,g5⟩:=iP gd wm;have gl:r.2.w.g < aa.length:=by omega
   have ol:r.2.w.o < aa.length:=by omega
   have fold:∀ f:Fn,((ws.take i).map (·.2.w)).foldl aJ (aE k x)=f->((ws.take (i + 1)).map (·.2.w)).foldl aJ (aE k x)=aJ f r.2.w:=λf e=>by
    rw [wM vC,zG,xA,e];rfl
   refine (Kq eV ?_);generalize ef:((ws.take i).map (·.2.w)).foldl aJ (aE k x)=f at h4 cm;have fo:=fold f ef;have hg:((rep aa.length f).map oV)[r.2.w.g]?=some (oV (f r.2.w.g)):=we gl;have ho:((rep aa.length f).map oV)[r.2.w.o]?=some (oV (f r.2.w.o)):=we ol;refine (zr rfl (zr rfl (bw h4 (xq ho) (zr rfl (cY (λc=>?_) (λc=>az rfl ?_))))))
   ·have c':=gM.mp c;refine (zr rfl (zr rfl (bw h4 (xq hg) (zr rfl ⟨f r.2.w.g,r.2.w.t,rfl,zr rfl (pU (λc2=>?_) (λc2=>?_))⟩))))
    ·refine (zr rfl (zr rfl (zr rfl ⟨l,_,_,r.2.w.o,rfl,rfl,h4,dw (by rw [zA,wg];exact ol),?_⟩)));refine (zr rfl (zr rfl ⟨by show 2<=sizeLine;omega,λtt vX=>(zr rfl (zr rfl ⟨d,zr rfl ⟨MI.k (k:=Sum.inl (r.2.w.o:Int)) (xU vX _ _ (by rw [xX Us];exact QC)) (by omega),?_⟩⟩))⟩));have nlt:l≠tt:=xT (xS) vX;have smx:=(au.put (o:=HO.lst (((rep aa.length f).map oV).set r.2.w.o (.int r.2.w.t))) hl oB).trans (xU (o:=HO.tup [.int r.2.n,.int r.2.w.g]) vX);have hdx:=xU (o:=HO.tup [.int r.2.n,.int r.2.w.g]) vX _ _ (show (upd H4 l (HO.lst (((rep aa.length f).map oV).set r.2.w.o (.int r.2.w.t)))) d=some (.dK aF) by rw [xX Us];exact QC);have ntd:tt≠d:=(xT (show (upd H4 l (HO.lst (((rep aa.length f).map oV).set r.2.w.o (.int r.2.w.t)))) d=some (.dK aF) by rw [xX Us];exact QC) vX).symm;have lnk:cK (ps.map (·.2)) r.2.n r.2.w.g r.2.w.o r.2.w.t:=dR (i:=ps.length) (by rw [<-ew];exact zQ.mpr ⟨r,rm,rfl⟩);have cmN:lN (ps.map (·.2)) k (((ws.take (i + 1)).map (·.2.w)).foldl aJ (aE k x)) (putK aF (Sum.inl (r.2.w.o:Int)) (.ref tt)) (upd (upd (upd H4 l (HO.lst (((rep aa.length f).map oV).set r.2.w.o (.int r.2.w.t)))) tt (HO.tup [.int r.2.n,.int r.2.w.g])) d (HO.dK (putK aF (Sum.inl (r.2.w.o:Int)) (.ref tt)))):=by
      rw [fo];unfold aJ;rw [if_pos ⟨c',c2⟩];exact lN.step (x:=r.2) (cm.aQ (((bC.set h4).trans (bC.new vX)).trans (bC.Wh hdx))) c' c2 lnk (by rw [xX ntd,xS])
     refine ⟨⟨_,_,_,_,rfl⟩,au.put hfd smx,?_,⟨_,xS,zz (fF _ _ _) (by omega),cmN⟩,λb u nb YW e=>?_⟩
     ·rw [xX Us.symm,xX nlt,xS,fo];unfold aJ;rw [if_pos ⟨c',c2⟩,<- fR ol,xN];rfl
     ·rw [xX YW];exact xU vX _ _ (by rw [xX nb];exact kp b u nb YW e)
    ·refine ⟨⟨_,_,_,_,rfl⟩,oB,?_,⟨aF,QC,by omega,by rw [fo];unfold aJ;rw [if_neg λz=>by rw [z.2] at c2;cases c2];exact cm⟩,kp⟩;rw [fo];unfold aJ;rw [if_neg λz=>by rw [z.2] at c2;cases c2];exact h4
   ·refine ⟨⟨_,_,_,_,rfl⟩,oB,?_,⟨aF,QC,by omega,by rw [fo];unfold aJ;rw [if_neg λz=>c (gM.mpr z.1)];exact cm⟩,kp⟩;rw [fo];unfold aJ;rw [if_neg λz=>c (gM.mpr z.1)];exact h4
  ·rintro σ H4 ⟨⟨v5,v6,v7,v8,rfl⟩,oB,h4,⟨aF,QC,lk,cm⟩,kp⟩;rw [zA,zv] at h4 cm;have e:((ws.map (·.2.w)).foldl aJ (aE k x))=fwd (ps.map (·.2)) (aE k x):=by
    unfold fwd;rw [<-QK,yF];rfl
   rw [e] at h4 cm;exact (zr rfl (zr rfl ⟨by show 2<=sizeLine;omega,λtt vX=>q tt l d aF _ hl (oB.trans (xU vX)) xS (xU vX _ _ h4) (xU vX _ _ QC) (cm.aQ (bC.new vX))⟩))
theorem C0:aA ["book", "sender", "since", "times", "came"] ["book", "sender", "since"] (aq Cf):=L2.bf
theorem EG (T:Tx K mg a ak ai ah)(B:aS mg base):aO P w K mg base bZ 3 a.Ag a.Au ["book", "sender", "since"] (tF):=by
 have CI:=De P w base T B;refine T.Ak.ok C0 (λvs H Q E h=>?_) (λbI A outer s H vs Q E hr h=>?_)
 ·obtain ⟨b,k,x,_,_,_,_,rfl,_⟩:=h;rfl
 ·have nd:=C0.nd;have hu:=hr.units;obtain ⟨b,k,x,aa,tr,tm,ps,rfl,hk,hb,hn,gd,q⟩:=h;refine ⟨_,(xP (xl (wd (xZ CI (hr.mono (by decide)) rfl T.DH T.DI T.DJ .nil av (xO (xQ (pv 0) (xQ (pv 1) (xQ (pv 2) xY rfl) rfl) rfl))) (xw (n:=2) rfl rfl (xV (xW (i:=3) nd rfl rfl) (xV (xW (i:=4) nd rfl rfl) xv)))) (xp (xh (pv 3))))),?_⟩;refine (zr rfl (zr rfl (zr rfl (vI b k x aa tr tm ps ⟨rfl,hb,hn,gd,λt l d aF H1 hl sm ht h1 _ _=>?_⟩))));exact (oO ht (zr rfl (q l _ hl sm h1)))
theorem Fj:aA ["book", "letter", "sender", "since", "wish", "last", "times", "came", "chain", "walker", "number"] ["book", "letter"] (aq wt):=L2.bf
theorem HZ (T:Tx K mg a ak ai ah)(B:aS mg base):aO P w K mg base bZ 5 a.Bn a.Cl ["book", "letter"] (rM):=by
 have JM:=IT P w base T B;have IN:=GZ P w base T B;have CI:=De P w base T B;refine T.BL.ok Fj (λvs H Q E h=>?_) (λbI A outer s H vs Q E hr h=>?_)
 ·obtain ⟨b,lt,_,_,_,_,_,_,_,_,rfl,_⟩:=h;rfl
 ·have nd:=Fj.nd;have hu:=hr.units;obtain ⟨b,lt,s0,w0,a0,z0,aa,tr,tm,ps,rfl,hb,hn,gd,hL,qn,qy⟩:=h;refine bT ?_;intro Y
  let B0:Bk Y (nb (aj wt) 6):=⟨_,(xP (xl (wd (Ny (z4 (Nat.add_le_add_left (by decide) _) hu) (pv 7) (pv 9) (λ_ _=>rfl)) (xw (n:=2) rfl rfl (xV (xW (i:=10) nd rfl rfl) (xV (xW (i:=9) nd rfl rfl) xv)))) (xp (wf (di zU zZ za wL (pv 8) (xO (xQ (pv 10) xY rfl)))))))⟩
  let B1:Bk Y ((aj wt).drop 4):=⟨_,(xP (xl (xn (i:=8) nd rfl rfl (wI cg)) (xl (xn (i:=9) nd rfl rfl (pv 4)) (xl (pF PassesOwn.never (xo eS (pv 9) (pv 2) (aB _)) B0.ps) (xp (xh (tR rfl (pv 8))))))))⟩
  let B2:Bk Y ((aj wt).drop 3):=⟨_,(xP (xl (xt (wJ (wE (xZ JM (hr.mono (by decide)) rfl T.JB T.JD T.JF .nil av (xO (xQ (xc (xb rfl) (pv 6) (pv 4) (λ_ _=>rfl)) (xQ (pv 5) xY rfl) rfl))))) (xP (xp (xh cG))) xk) B1.bl))⟩
  let B3:Bk Y ((aj wt).drop 2):=⟨_,(xP (xl (wd (xZ CI (hr.mono (by decide)) rfl T.DH T.DI T.DJ .nil av (xO (xQ (pv 0) (xQ (pv 2) (xQ (pv 3) xY rfl) rfl) rfl))) (xw (n:=2) rfl rfl (xV (xW (i:=6) nd rfl rfl) (xV (xW (i:=7) nd rfl rfl) xv)))) B2.bl))⟩
  let B4:Bk Y ((aj wt).drop 1):=⟨_,(xP (xl (wd (pv 1) (xw (n:=4) rfl rfl (xV (xW (i:=2) nd rfl rfl) (xV (xW (i:=3) nd rfl rfl) (xV (xW (i:=4) nd rfl rfl) (xV (xW (i:=5) nd rfl rfl) xv)))))) B3.bl))⟩
  refine ⟨_,(xP (xl (xt (wJ (wE (xZ IN (hr.mono (by decide)) rfl T.Ie T.Im T.Ix .nil av (xO (xQ (pv 0) (xQ (pv 1) xY rfl) rfl))))) (xP (xp (xh cG))) xk) B4.bl)),?_⟩;have line:=bE;obtain ⟨cN,SE,W0,_⟩:=id hL;refine (zr rfl (zr rfl (vI b (.ref lt) _ aa tr tm ps ⟨rfl,hb,hL.th,zr rfl (az (by rw [hL.yes];rfl) ?_)⟩)));refine (zr rfl (Kq cN ?_));refine (zr rfl (zr rfl (zr rfl (vI b s0 a0 aa tr tm ps ⟨rfl,hb,hn,gd,λt l d aF H1 hl uT ht h1 hd cm=>(oO ht ?_)⟩))));generalize eE:fwd (ps.map (·.2)) (aE s0 a0)=E0 at qn qy h1 cm;have er:=mQ (s:=s0) (x:=a0) gd;rw [eE] at er;refine (zr rfl (zr rfl (bw h1 (xq (we W0)) (zr rfl ⟨E0 w0,z0,rfl,zr rfl (pU (λc=>?_) (λc=>?_))⟩))))
  ·exact qn (by cases e:bX (E0 w0) z0 with
    | false=>rfl
    | true=>rw [e] at c;cases c) _ uT
  obtain ⟨ew,Zu,lez⟩:∃ e,E0 w0=some e/\e<=z0:=bJ.mp (by cases e:bX (E0 w0) z0 with
    | true=>rfl
    | false=>rw [e] at c;cases c)
  refine ⟨zc _,λlc kW=>(zr rfl ?_)⟩;have Xs:H lc=none:=uT.free kW;refine Kn (fun σ H4=>∃ (v:Nat) (e:Int) (cs:List Int),∃ v10,σ=[some (.ref b),some (.ref lt),some (.int s0),some (.int a0),some (.int w0),some (.int z0),some (.ref l),some (.ref d),some (.ref lc),some (.int v),v10]/\E0 v=some e/\H4 lc=some (.lst (List.map V.int cs.reverse)) /\
    (∀ b u,b≠lc->H1 b=some u->H4 b=some u)/\cs.length + lZ aa.length E0 e<=aa.length /\
    (∀ A:Int,(A=-1\/∃ n:Nat,∃ m,A=n/\(ps.map (·.2))[n]?=some m/\m.t<=e)->lP (ps.map (·.2)) v e A cs=some (w0,ew)))
   (fun σ _=>mu aa.length E0 σ) ?_ ?_ ?_
  ·exact ⟨w0,ew,[],zr rfl ⟨Zu,xS,λb u nb e=>by rw [xX nb];exact e,by have:=Np aa.length E0 ew;simpa using this,λA _=>rfl⟩⟩
  ·rintro σ H4 ⟨v,e,cs,v10,rfl,he,hc,kp,lrk,wk⟩;refine (zr rfl (zr rfl ⟨rfl,zr rfl ?_⟩));by_cases hv:v=s0
   ·subst hv;rw [er.self] at he;cases he;refine Lz rfl ?_;refine (zr rfl ⟨lc,zr rfl ⟨aG.of hc,λlr Qp=>?_⟩⟩);have e1:(List.map V.int cs.reverse).reverse=List.map V.int cs:=by rw [<-List.map_reverse,List.reverse_reverse]
    rw [e1];have YJ:au H H4:=λb u eb=>kp b u (xT eb Xs) (uT b u eb);exact qy ew lr cs _ Zu lez (YJ.free Qp) (YJ.trans (xU Qp)) xS (by omega) (wk (-1) (.inl rfl))
   ·refine aT (by have:¬ V.int (v:Int)=V.int (s0:Int):=λz=>hv (by have:=V.int.inj z;omega);simp [this]) ?_;obtain Xb | ⟨tt,n,g,y,c1,c2,c3,c4,c5⟩:=cm v e he
    ·exact absurd Xb hv
    obtain ⟨gi,vi,gv⟩:=c3.inside gd;have hd4:=kp d _ (λz=>by rw [z] at hd;rw [hd] at kW;cases kW) hd;have Xd:=kp tt _ (λz=>by rw [z] at c2;rw [c2] at kW;cases kW) c2;have dg:tu H4 d (.int (v:Int)) (some (.ref tt)):=by
     have:=tu.k (k:=Sum.inl (v:Int)) hd4;rw [c1] at this;exact this
    have rl:=Nn gi c4 c5;refine (zr rfl (zr rfl ⟨d,.ref tt,rfl,dg,oO Xd ?_⟩));refine (zr rfl ⟨.inl ⟨rfl,_,aG.of hc⟩,zr rfl ⟨lc,aH rfl rfl ⟨hc,by rw [zA,yk];omega,⟨g,y,(n:Int)::cs,zr rfl ⟨c4,?_,λb u nb eb=>by rw [xX nb];exact kp b u nb eb,by rw [ze];omega,λA hA=>?_⟩⟩,?_⟩⟩⟩)
    ·rw [xS,yx,zG];rfl
    ·obtain ⟨m,hm,mt,_⟩:=id c3;have an:A < n:=by
      rcases hA with rfl | ⟨n',m',rfl,vD,lt'⟩
      ·omega
      ·have:=Qh gd.ord.2 vD hm (by omega);omega
     rw [uG c3 gv c5 an];exact wk n (.inr ⟨n,m,rfl,hm,by omega⟩)
    ·show mu aa.length E0 _ < mu aa.length E0 _;unfold mu;simp only [yo,yn,yO,yY,zm,c4,he];exact rl
  ·rintro σ H4 Q1 Q2 hq ⟨x,hx,y,hy,hsc,k1,Qu,h⟩;exact ⟨x,hx,y,hy,hsc,k1,Qu,hq _ _ h⟩
theorem D7:aA ["book", "wishes", "stretch", "walker", "some", "left", "number", "wished", "last"] ["book", "wishes", "stretch", "walker", "some"] (aq wx):=L2.bf
theorem Eh (T:Tx K mg a ak ai ah)(B:aS mg base):aO P w K mg base bZ 2 a.AA a.By ["book", "wishes", "stretch", "walker", "some"] (uN):=by
 have Fd:=FK P w base T B;have Gb:=Fw P w base T B;refine T.A5.ok D7 (λvs H Q E h=>?_) (λbI A outer s H vs Q E hr h=>?_)
 ·obtain ⟨_,_,_,_,_,_,_,_,_,_,rfl,_⟩:=h;rfl
 ·have nd:=D7.nd;have hu:=hr.units;obtain ⟨b,l,j,w0,s,aa,tr,tm,ps,ws,rfl,cx,hs,q⟩:=h;refine bT ?_;intro Y
  let B0:Bk Y (nb (nb (aj wx) 1) 0):=⟨_,(xP (xp (xn (i:=5) nd rfl rfl (xZ Gb (hr.mono (by decide)) rfl T.FQ T.FU T.FY .nil av (xO (xQ (pv 5) (xQ (pv 6) xY rfl) rfl))))))⟩
  let B1:Bk Y (nb (aj wx) 1):=⟨_,(xP (xp (xt (@PW.pt _ _ _ (fk (xo qH (pv 7) (pv 3) (aB _)) (dU (xo j4 (pv 2) (xZ Fd (hr.mono (by decide)) rfl T.GO T.GR T.GU .nil av (xO (xQ (pv 0) (xQ (pv 8) xY rfl) rfl))) (aB _))))) B0.ps xk)))⟩
  let B2:Bk Y ((aj wx).drop 1):=⟨_,(xP (xl (wF PassesOwn.never rfl (ir rfl rfl T.bV (xO (xQ (pv 1) xY rfl))) (xw (n:=2) rfl rfl (xV (xW (i:=6) nd rfl rfl) (xV (xw (n:=2) rfl rfl (xV (xW (i:=7) nd rfl rfl) (xV (xW (i:=8) nd rfl rfl) xv))) xv))) B1.ps) (xp (xh (pv 5)))))⟩
  refine ⟨_,(xP (xl (xn (i:=5) nd rfl rfl (pv 4)) B2.bl)),?_⟩;have line:=bE;have w4:=cx.w4;have Ow:=cx.gd.len;refine (zr rfl (zr rfl ⟨l,rfl,⟨_,aG.of cx.wa.1⟩,?_⟩));refine (let W8:IV:=λi σ H5=>∃ lf:Nat,(∃ v6 v7 v8,σ=[some (.ref b),some (.ref l),some (.int (j:Int)),some (.int (w0:Int)),some (.int (s:Int)),some (.int (lf:Int)),v6,v7,v8])/\(∀ k,lf.testBit k=(s.testBit k && !(decide (k < i) && dz (ps.map (·.2)) (wq ws) j w0 k)))/\au H H5;fV (K:=K) (a:=l) (xs:=ws.map λa=>V.ref a.1) W8 ⟨s,⟨_,_,_,rfl⟩,λk=>by simp,au.refl _⟩ ?_ ?_ ?_)
  ·rintro i σ H5 _ ⟨_,_,_,s5⟩;exact aG.of (s5 _ _ cx.wa.1)
  ·rintro i v q0 σ H5 hv hq ⟨lf,⟨v6,v7,v8,rfl⟩,bits,s5⟩;obtain ⟨x,hx,rfl⟩:=xz hv;have i4:i < ws.length:=(zC.mp hx).1;have s6:=s5.trans (xU (o:=HO.tup [V.int (i:Int),V.ref x.1]) hq);have kq:upd H5 q0 (HO.tup [V.int (i:Int),V.ref x.1]) q0=some (.tup [V.int (i:Int),V.ref x.1]):=xS;generalize upd H5 q0 (HO.tup [V.int (i:Int),V.ref x.1])=H6 at s6 kq ⊢;have qd:=cx.same s6;obtain ⟨kx,lx⟩:=qd.wa.2 x (zB hx);have dn:=Oa (ms:=ps.map (·.2)) (j:=j) (w:=w0) hx;have fh:dz (ps.map (·.2)) (wq ws) j w0 i=false->∀ k,lf.testBit k=(s.testBit k && !(decide (k < i + 1) && dz (ps.map (·.2)) (wq ws) j w0 k)):=λd k=>by
    rw [bits k];by_cases e:k=i
    ·subst e;rw [d];simp
    ·simp [show (k < i + 1)=(k < i) from propext ⟨λh=>by omega,λh=>by omega⟩]
   refine ⟨q0,zr rfl ⟨bq.of kq,rfl,kT rfl (kT rfl (oO kx ⟨rfl,?_⟩))⟩⟩;refine (zr rfl (zr rfl ⟨rfl,zr rfl ?_⟩));by_cases e1:x.2.1=w0
   ·refine aT (decide_eq_true (by rw [e1])) (zr rfl (zr rfl (zr rfl (UQ b x.2.2 aa tr tm ps ⟨rfl,qd.bk,by omega,λH7 s7=>(aH rfl rfl (zr rfl ?_))⟩))));refine cY (λc=>?_) (λc=>⟨lf,⟨_,_,_,rfl⟩,fh (by rw [dn,decide_eq_false (p:=j<=_) (by omega),ym]),s6.trans s7⟩);refine (zr rfl (zr rfl ⟨lf,i,rfl,by omega,iX lf i,⟨_,_,_,rfl⟩,λk=>?_,s6.trans s7⟩));rw [Lr,bits k];by_cases e:k=i
    ·subst e;rw [dn,decide_eq_true e1,decide_eq_true (p:=j<=_) (by omega)];simp
    ·simp [show (k < i + 1)=(k < i) from propext ⟨λh=>by omega,λh=>by omega⟩,e]
   ·refine az (decide_eq_false (λz=>e1 (Int.ofNat.inj (V.int.inj z)))) (az rfl ⟨lf,⟨_,_,_,rfl⟩,fh (by rw [dn,decide_eq_false e1,yQ]),s6⟩)
  ·rintro σ H5 ⟨lf,⟨v6,v7,v8,rfl⟩,bits,s5⟩;refine (zr rfl ?_);have e:lf=aC (ps.map (·.2)) (wq ws) j w0 s:=zy λk=>by
    rw [bits k,qA (by rw [qC];exact hs),zA];by_cases e:k < ws.length
    ·simp [e]
    ·rw [done_none (by rw [qC];omega)];simp
   rw [e];exact q _ s5
theorem HV:aA ["book", "stretch", "walker", "some", "following", "price", "other"] ["book", "stretch", "walker", "some", "following"] (aq C1):=L2.bf
theorem JO (T:Tx K mg a ak ai ah)(B:aS mg base):aO P w K mg base bZ 2 a.C2 a.D6 ["book", "stretch", "walker", "some", "following"] (uR):=by
 have Et:=Fl P w base T B;have Gd:=GL P w base T B;refine T.DD.ok HV (λvs H Q E h=>?_) (λbI A outer s H vs Q E hr h=>?_)
 ·obtain ⟨_,_,_,_,_,_,_,_,_,_,_,rfl,_⟩:=h;rfl
 ·have nd:=HV.nd;have hu:=hr.units;obtain ⟨b,j,w0,s,v,aa,tr,tm,ps,sz,F,rfl,hb,gd,u0,hw,hs,YM,fo,hF,q⟩:=h;refine bT ?_;intro Y
  let B0:Bk Y ((nb (aj C1) 3).drop 1):=⟨_,(xP (xp (xn (i:=5) nd rfl rfl (xg (vP rfl) (by rfl) T.qk ye (xO (xQ (xj Lg (wI (xO (xQ (pv 5) xY rfl))) (wu (own:=["part", "rest"]) (caps:=[4,6,2]) rfl (show aM ["part", "rest"] [4,6,2] ["book", "stretch", "walker", "some", "following", "price", "other"] (aq C1) _ from L2.i6) (wP rfl (xZ Gd (hr.mono (by decide)) rfl T.Id T.Il T.Iw .nil av (xO (xQ (pv 3) xY rfl)))) (λ_ _ _ _=>(xw (n:=2) rfl rfl (xV (xW (i:=0) (show List.Nodup (["part", "rest", "following", "other", "walker"]:List Str) from by decide +kernel) rfl rfl) (xV (xW (i:=1) (show List.Nodup (["part", "rest", "following", "other", "walker"]:List Str) from by decide +kernel) rfl rfl) xv)))) (λ_ _ _ _=>cA) (λ_ _ _ _=>(xj xu (xj xu xR (xc (xb rfl) (xc (xb rfl) (pv 2) (pv 4) (λ_ _=>rfl)) (pv 0) (λ_ _=>rfl))) (xc (xb rfl) (xc (xb rfl) (pv 2) (pv 3) (λ_ _=>rfl)) (pv 1) (λ_ _=>rfl)))))) xY rfl))))))⟩
  let B1:Bk Y (nb (aj C1) 3):=⟨_,(xP (xl (xn (i:=6) nd rfl rfl (xZ Et (hr.mono (by decide)) rfl T.FS T.FW T.F3 .nil av (xO (xQ (pv 0) (xQ (pv 1) (xQ (pv 2) xY rfl) rfl) rfl)))) B0.bl))⟩
  let B2:Bk Y ((aj C1).drop 3):=⟨_,(xP (xl (xt (xo (gK rfl) (pv 2) (pJ (Nh rfl) (xc (xi rfl) (xc (xi rfl) (pv 0) xR (λ_ _=>rfl)) (pv 1) (λ_ _=>rfl)) tN (nq xR)) rfl) B1.ps xk) (xp (xh (pv 5)))))⟩
  let B3:Bk Y ((aj C1).drop 1):=⟨_,(xP (xl (xt (b9 (cH (pv 4))) (xP (xp (xh (xj xu (xg (xf rfl) (by rfl) T.aU PySem.boot_len (xO (xQ (xc (xi rfl) (pv 0) xR (λ_ _=>rfl)) xY rfl))) xR)))) xk) (xl (xn (i:=5) nd rfl rfl (xc (xb rfl) (xc (xb rfl) (pv 4) (pv 2) (λ_ _=>rfl)) (pv 3) (λ_ _=>rfl))) B2.bl)))⟩
  refine ⟨_,(xP (xl (xt (xo qH (pv 3) xR (aB _)) (xP (xp (xh xR))) xk) B3.bl)),?_⟩;have line:=bE;have Ow:=gd.len;refine (zr rfl ⟨rfl,zr rfl ?_⟩);by_cases s0:s=0
  ·exact aT (decide_eq_true (by rw [s0];rfl)) (q 0 _ (au.refl _) (.inl ⟨s0,rfl⟩))
  refine az (decide_eq_false (λz=>s0 (Int.ofNat.inj (V.int.inj z)))) ?_;rcases fo with ⟨rfl,rfl⟩ | ⟨lf,A,rfl,kA,lA,rA,rfl⟩
  ·refine (zr rfl (zr rfl (aT rfl (zr rfl (bM hb.book rfl ⟨tm,zr rfl ⟨.inr (bq.of hb.meets),aH rfl rfl ?_⟩⟩)))));refine q _ _ (au.refl _) (.inr ⟨s0,?_⟩);rw [zA,zA]
  have jn:=hF _ rfl;obtain ⟨b1,iZ⟩:∃ r,A[w0]?=some r:=⟨_,zF (by omega)⟩;have MO:=zB iZ;have F1:∀ s',((A.map (·.2)).getD w0 []).getD s' 0=b1.2.getD s' 0:=λs'=>by
   have:(A.map (·.2)).getD w0 []=b1.2:=by rw [zV,zD,iZ];rfl
   rw [this]
  have lb1:=(rA b1 MO).2;obtain ⟨xm,NV⟩:∃ x,ps[j]?=some x:=⟨_,zF jn⟩;have Y3:=zB NV;refine (zr rfl (zr rfl (az rfl (zr rfl (zr rfl (bw kA (xq (by rw [zD,iZ];rfl)) (zr rfl (bw ((rA b1 MO).1) (qJ (by omega)) ?_))))))));have kx:=hb.rows xm Y3;have fx:=gd.at Y3;obtain ⟨lo,Tf⟩:=zk fx.1;obtain ⟨hi,Tg⟩:∃ n:Nat,xm.2.hi=n:=zk (by omega);refine (zr rfl (zr rfl (bM hb.book rfl (zr rfl (bM hb.meets (xq (by rw [zD,NV];rfl)) (zr rfl ⟨xm.1,zr rfl ⟨bq.of kx,(by show ¬ (HT.cz 4 0 none=0/\HT.cz 4 4 (some 2)=4);decide),λp2 Rn=>?_⟩⟩))))));rw [show nX xm.2.vs none (some 2)=[V.int xm.2.lo,V.int xm.2.hi] from rfl];have s2:=xU (o:=HO.tup [V.int xm.2.lo,V.int xm.2.hi]) Rn;have F2:∀ {o:Nat}{d:ou},A[o]?=some d->∀ s',((A.map (·.2)).getD o []).getD s' 0=d.2.getD s' 0:=λ{o d} h s'=>by
   have:(A.map (·.2)).getD o []=d.2:=by rw [zV,zD,h];rfl
   rw [this]
  have hm:=nH NV;refine ⟨p2,[.int xm.2.lo,.int xm.2.hi],rfl,.inr (bq.of xS),rfl,rfl,zr rfl ?_⟩;rw [show NT (V.int (w0:Int)) [V.int xm.2.lo,V.int xm.2.hi]=(decide ((w0:Int)=xm.2.lo) || decide ((w0:Int)=xm.2.hi)) from pV];refine lD (fun σ H'=>∃ x:Int,(∃ v6,σ=[some (.ref b),some (.int (j:Int)),some (.int (w0:Int)),some (.int (s:Int)),some (.ref lf),some (.int x),v6])/\au H H'/\dB (ps.map (·.2)) j (some λw s=>(((A.map (·.2)).getD w []).getD s 0)) w0 s x) ?_ (λc k0=>?_) (λc=>⟨_,⟨_,rfl⟩,s2,.inr ⟨s0,.inl ⟨λo t l=>?_,(F1 s).symm⟩⟩⟩)
  ·rintro σ H' ⟨x,⟨v6,rfl⟩,s',lx⟩;exact (zr rfl (q x H' s' lx))
  ·generalize upd H p2 _=H2 at s2 ⊢;obtain ⟨o,eo,lk⟩:∃ o:Nat,(if (w0:Int)=xm.2.lo then xm.2.hi else xm.2.lo)=(o:Int)/\cK (ps.map (·.2)) j w0 o xm.2.t:=by
    have c:(decide ((w0:Int)=xm.2.lo) || decide ((w0:Int)=xm.2.hi))=true:=c;rw [yh,decide_eq_true_eq,decide_eq_true_eq] at c;by_cases e:(w0:Int)=xm.2.lo
    ·exact ⟨hi,by rw [if_pos e,Tg],xm.2,hm,rfl,.inl ⟨by omega,by omega⟩⟩
    ·exact ⟨lo,by rw [if_neg e,Tf],xm.2,hm,rfl,.inr ⟨by omega,by omega⟩⟩
   have oW:o < aa.length:=(lk.inside gd).2.1;obtain ⟨d1,OE⟩:∃ r,A[o]?=some r:=⟨_,zF (by omega)⟩;have Sd:=zB OE;have ld1:=(rA d1 Sd).2;refine (zr rfl (zr rfl (zr rfl (Z0 b j w0 aa tr tm ps xm.2 ⟨rfl,hb.same s2,hm,?_⟩))));rw [eo];refine (zr rfl ⟨by show 1<=sizeLine;omega,λl1 y1=>?_⟩);have w1:=xU (o:=HO.lst [V.int (b1.2.getD s 0)]) y1;have u1:upd H2 l1 (HO.lst [V.int (b1.2.getD s 0)]) l1=some (.lst [V.int (b1.2.getD s 0)]):=xS;generalize upd H2 l1 _=H3 at w1 u1 ⊢;refine (zr rfl ⟨s,rfl,by omega,λls rs H4 s4 kl kr es=>?_⟩);have YL:=(s2.trans w1).trans s4;refine ⟨ls,rfl,⟨_,aG.of kl⟩,?_⟩;have ln:=split_len s;have lrs:rs.length<=s + 1:=by rw [<-es,zA] at ln;exact ln
   refine (let W9:IC:=λi τ acc H5=>(∃ t0 t1,τ=[t0,t1,some (.ref lf),some (.int (o:Int)),some (.int (w0:Int))])/\acc=((rs.take i).map λr=>1 + b1.2.getD r.2.1 0 + d1.2.getD r.2.2 0).map V.int/\au H4 H5;cT (K:=K) (a:=ls) (xs:=rs.map λr=>V.ref r.1) W9 ⟨⟨_,_,rfl⟩,rfl,au.refl _⟩ (by rw [zA];omega) ?_ ?_ ?_)
   ·rintro i τ acc H5 ⟨_,rfl,s5⟩;refine ⟨?_,aG.of (s5 _ _ kl)⟩;rw [zA,zA,zu];omega
   ·rintro i v τ acc H5 C hv ⟨⟨t0,t1,rfl⟩,rfl,s5⟩ hC;obtain ⟨r,hr,rfl⟩:=xz hv;have mr:=zB hr;have r2:=split_le (s:=s) (r:=r.2) (by rw [<-es];exact yI mr);have Ua:=YL.trans s5;refine (oO (s5 _ _ (kr r mr)) ?_);refine (zr rfl (zr rfl (bw (Ua _ _ kA) (xq (by rw [zD,iZ];rfl)) (zr rfl (bw (Ua _ _ (rA b1 MO).1) (qJ (by omega)) (aH rfl rfl ?_))))));refine (zr rfl (zr rfl (bw (Ua _ _ kA) (xq (by rw [zD,OE];rfl)) (zr rfl (bw (Ua _ _ (rA d1 Sd).1) (qJ (by omega)) (aH rfl rfl (hC _ _ _ ⟨⟨_,_,rfl⟩,?_,s5⟩)))))));rw [wM hr,zG,zG];rfl
   ·rintro τ acc H5 ⟨⟨t0,t1,rfl⟩,rfl,s5⟩ lc kW;rw [zA,zv];have w6:=xU (o:=HO.lst ((rs.map λr=>1 + b1.2.getD r.2.1 0 + d1.2.getD r.2.2 0).map V.int)) kW;have u6:upd H5 lc (HO.lst ((rs.map λr=>1 + b1.2.getD r.2.1 0 + d1.2.getD r.2.2 0).map V.int)) lc=some (.lst ((rs.map λr=>1 + b1.2.getD r.2.1 0 + d1.2.getD r.2.2 0).map V.int)):=xS;generalize upd H5 lc _=H6 at w6 u6 ⊢;refine ⟨l1,lc,aH rfl rfl ⟨w6 _ _ (s5 _ _ (s4 _ _ u1)),u6,by rw [zA,zA];show 1 + _<=_;omega,λl2 y2=>?_⟩⟩;have w7:=xU (o:=HO.lst ([V.int (b1.2.getD s 0)]++(rs.map λr=>1 + b1.2.getD r.2.1 0 + d1.2.getD r.2.2 0).map V.int)) y2;refine ⟨l2,b1.2.getD s 0::rs.map λr=>1 + b1.2.getD r.2.1 0 + d1.2.getD r.2.2 0,rfl,aG.of xS,Nat.succ_pos _,λM hM mn=>?_⟩;refine k0 _ _ ⟨M,⟨_,rfl⟩,((YL.trans s5).trans w6).trans w7,.inr ⟨s0,.inr ⟨o,xm.2.t,lk,?_,λp sp=>?_,?_⟩⟩⟩
    ·dsimp only;rw [F1];exact mn _ (.head _)
    ·have:(p,s - p)∈rs.map (·.2):=by rw [es];exact cS.mpr ⟨⟨sp.le,cR.mpr sp⟩,rfl⟩
     obtain ⟨r',qz,e'⟩:=zQ.mp this;have:=mn _ (zw _ (yI qz));rw [e'] at this;dsimp only;rw [F1,F2 OE];exact this
    ·rcases zK.mp hM with e | e
     ·exact .inl (by dsimp only;rw [F1];exact e)
     ·obtain ⟨r',qz,e'⟩:=zQ.mp e;have mr:r'.2∈fj s:=by rw [<-es];exact yI qz
      obtain ⟨r0,p,q0⟩:=r';obtain ⟨⟨_,b2⟩,rfl⟩:=cS.mp mr;exact .inr ⟨p,cR.mp b2,by dsimp only;rw [F1,F2 OE];exact e'.symm⟩
  ·have c:(decide ((w0:Int)=xm.2.lo) || decide ((w0:Int)=xm.2.hi))=false:=c;rw [Bool.or_eq_false_iff,decide_eq_false_iff_not,decide_eq_false_iff_not] at c;obtain ⟨m',vD,_,cc⟩:=l;rw [hm] at vD;cases vD;rcases cc with ⟨a1,a2⟩ | ⟨a1,a2⟩ <;> omega
theorem GJ:aA ["book", "wishes", "stretch", "walker", "following", "row", "some", "left"] ["book", "wishes", "stretch", "walker", "following"] (aq Dd):=L2.bf
theorem Jz (T:Tx K mg a ak ai ah)(B:aS mg base):aO P w K mg base bZ 3 a.CC a.Dh ["book", "wishes", "stretch", "walker", "following"] (M9):=by
 have Gf:=GM P w base T B;have DB:=Eh P w base T B;have J5:=JO P w base T B;refine T.CY.ok GJ (λvs H Q E h=>?_) (λbI A outer s H vs Q E hr h=>?_)
 ·obtain ⟨_,_,_,_,_,_,_,_,_,_,_,rfl,_⟩:=h;rfl
 ·have nd:=GJ.nd;have hu:=hr.units;obtain ⟨b,l,j,w0,v,aa,tr,tm,ps,ws,F,rfl,cx,hw,fo,hF,q⟩:=h;refine bT ?_;intro Y
  let B0:Bk Y ((nb (aj Dd) 1).drop 1):=⟨_,(xP (xp (wf (di zU zZ za wL (pv 5) (xO (xQ (iu (xo qH (pv 7) (pv 6) (aB _)) (xZ J5 (hr.mono (by decide)) rfl T.JY T.JZ T.J0 .nil av (xO (xQ (pv 0) (xQ (pv 2) (xQ (pv 3) (xQ (pv 6) (xQ (pv 4) xY rfl) rfl) rfl) rfl) rfl))) (xc (xb rfl) (pv 5) (pv 7) (λ_ _=>rfl))) xY rfl))))))⟩
  let B1:Bk Y (nb (aj Dd) 1):=⟨_,(xP (xl (xn (i:=7) nd rfl rfl (xZ DB (hr.mono (by decide)) rfl T.EI T.EL T.EO .nil av (xO (xQ (pv 0) (xQ (pv 1) (xQ (pv 2) (xQ (pv 3) (xQ (pv 6) xY rfl) rfl) rfl) rfl) rfl)))) B0.bl))⟩
  let B2:Bk Y ((aj Dd).drop 1):=⟨_,(xP (xl (wF PassesOwn.never rfl (wZ rfl T.bL (xO (xQ (xj xu (xZ Gf (hr.mono (by decide)) rfl T.Ig T.Io T.Iy .nil av (xO (xQ (pv 1) xY rfl))) xR) xY rfl))) (xW (i:=6) nd rfl rfl) B1.ps) (xp (xh (pv 5)))))⟩
  refine ⟨_,(xP (xl (xn (i:=5) nd rfl rfl (wI cg)) B2.bl)),?_⟩;have line:=bE;have w4:=cx.w4;have Ov:=l5 w4;have p0:=yM ws.length;refine ⟨zc _,λlr Qp=>?_⟩;have s1:=xU (o:=HO.lst []) Qp;have k1:upd H lr (HO.lst []) lr=some (.lst []):=xS;generalize upd H lr (HO.lst [])=H1 at s1 k1 ⊢;refine (zr rfl ⟨l,ws,zr rfl ⟨(cx.same s1).wa,by omega,aH rfl rfl ?_⟩⟩);refine ⟨((2 ^ ws.length:Nat):Int),?_,by omega,by omega,?_⟩
  ·show [V.int (((2 ^ ws.length:Nat):Int) - 1 + 1)]=_;rw [Int.sub_add_cancel]
  rw [zm];refine (let W10:IV:=λs σ H5=>∃ r:List Int,(∃ v6 v7,σ=[some (.ref b),some (.ref l),some (.int (j:Int)),some (.int (w0:Int)),some v,some (.ref lr),v6,v7])/\au H H5/\H5 lr=some (.lst (r.map V.int))/\r.length=s/\∀ s',s' < s->(aC (ps.map (·.2)) (wq ws) j w0 s'=s'->dB (ps.map (·.2)) j F w0 s' (r.getD s' 0))/\r.getD s' 0=r.getD (aC (ps.map (·.2)) (wq ws) j w0 s') 0;qD (lo:=0) (n:=2 ^ ws.length) W10 ⟨[],⟨_,_,rfl⟩,s1,k1,rfl,(λj z=>absurd z (zd _))⟩ ?_ ?_)
  ·rintro s σ H5 hs ⟨r,⟨v6,v7,rfl⟩,s5,k5,Rj,old⟩;rw [xM];have Mj:=cx.same s5;have NW:s < 2 ^ (wq ws).length:=by rw [qC];exact hs
   have ole:=(wW (ms:=ps.map (·.2)) (ws:=wq ws) (j:=j) (w:=w0) NW).le;refine (zr rfl (zr rfl (zr rfl (zr rfl (zr rfl (LY b l j w0 s aa tr tm ps ws ⟨rfl,Mj,hs,λH6 s6=>?_⟩))))));have Pq:=s5.trans s6;have k6:=s6 _ _ k5;refine (zr rfl ⟨.inl ⟨rfl,_,aG.of k6⟩,zr rfl (zr rfl ⟨rfl,zr rfl ?_⟩)⟩);have put:∀ {H':Hp}{o:HO},au H H'->au H (upd H' lr o):=λs a u e=>by rw [xX (xT e Qp)];exact s a u e
   by_cases e1:aC (ps.map (·.2)) (wq ws) j w0 s=s
   ·refine aT (decide_eq_true (by rw [e1])) (zr rfl (zr rfl (zr rfl (zr rfl (zr rfl (QI b j w0 s v aa tr tm ps (2 ^ ws.length) F ⟨rfl,(Mj.same s6).bk,cx.gd,cx.u0,hw,hs,Ov,fo.same Pq,hF,λx H7 s7 lx=>?_⟩))))));refine ⟨lr,aH rfl rfl ⟨s7 _ _ k6,by rw [zA];omega,r++[x],⟨_,_,rfl⟩,put (Pq.trans s7),by rw [xS,zG];rfl,by rw [zN,Rj];rfl,jS Rj NW old (λ_=>lx) (λn=>absurd e1 n)⟩⟩
   ·refine az (decide_eq_false (λz=>e1 (Int.ofNat.inj (V.int.inj z)))) (zr rfl (zr rfl (bw k6 (qJ (by omega)) ?_)));refine ⟨lr,aH rfl rfl ⟨k6,by rw [zA];omega,r++[_],⟨_,_,rfl⟩,put Pq,by rw [xS,zG];rfl,by rw [zN,Rj];rfl,jS Rj NW old (λn=>absurd n e1) (λ_=>rfl)⟩⟩
  ·rintro σ H5 ⟨r,⟨v6,v7,rfl⟩,s5,k5,Rj,old⟩;exact (zr rfl (q lr r H5 s5 Qp k5 Rj λs hs=>old s (by rw [qC] at hs;exact hs)))
theorem DF:aA ["book", "wishes", "prices", "stretch", "following"] ["book", "wishes"] (aq wX):=L2.bf
theorem Fx (T:Tx K mg a ak ai ah)(B:aS mg base):aO P w K mg base bZ 4 a.An a.AS ["book", "wishes"] (rJ):=by
 have JW:=Jz P w base T B;refine T.Aw.ok DF (λvs H Q E h=>?_) (λbI A outer s H vs Q E hr h=>?_)
 ·obtain ⟨_,_,_,_,_,_,_,rfl,_⟩:=h;rfl
 ·have nd:=DF.nd;have hu:=hr.units;obtain ⟨b,l,aa,tr,tm,ps,ws,rfl,cx,q⟩:=h;refine bT ?_;intro Y
  let B0:Bk Y ((nb (aj wX) 1).drop 1):=⟨_,(xP (xp (wf (di zU zZ za wL (pv 2) (xO (xQ (wu (own:=["walker"]) (caps:=[0,1,3,4]) rfl (show aM ["walker"] [0,1,3,4] ["book", "wishes", "prices", "stretch", "following"] (aq wX) _ from L2.i6) (wZ rfl T.bL (xO (xQ (xg (xf rfl) (by rfl) T.aU PySem.boot_len (xO (xQ (xc (xi rfl) (pv 0) xR (λ_ _=>rfl)) xY rfl))) xY rfl))) (λ_ _ _ _=>(xW (i:=0) (show List.Nodup (["walker", "book", "wishes", "stretch", "following"]:List Str) from by decide +kernel) rfl rfl)) (λ_ _ _ _=>cA) (λ_ _ _ _=>(xZ JW (hr.mono (by decide)) rfl T.JP T.JQ T.JR .nil av (xO (xQ (pv 1) (xQ (pv 2) (xQ (pv 3) (xQ (pv 0) (xQ (pv 4) xY rfl) rfl) rfl) rfl) rfl))))) xY rfl))))))⟩
  let B1:Bk Y ((aj wX).drop 1):=⟨_,(xP (xl (wF PassesOwn.never rfl (Nu rfl T.sU rfl T.bL (xO (xQ (xj xu (xg (xf rfl) (by rfl) T.aU PySem.boot_len (xO (xQ (xc (xi rfl) (pv 0) xR (λ_ _=>rfl)) xY rfl))) xR) xY rfl))) (xW (i:=3) nd rfl rfl) (xP (xl (xn (i:=4) nd rfl rfl (iu (pD (pv 2) (λ_=>rfl)) (xc (xb rfl) (pv 2) (jX gE xR) (λ_ _=>rfl)) cG)) B0.bl))) (xp (xh (tR rfl (pv 2))))))⟩
  refine ⟨_,(xP (xl (xn (i:=2) nd rfl rfl (wI cg)) B1.bl)),?_⟩;have line:=bE;have w4:=cx.w4;have Ow:=cx.gd.len;have u0:=cx.u0;refine ⟨zc _,λlp Zm=>?_⟩;have s1:=xU (o:=HO.lst []) Zm;have k1:upd H lp (HO.lst []) lp=some (.lst []):=xS;generalize upd H lp (HO.lst [])=H1 at s1 k1 ⊢;have iZ:=cx.bk.same s1;refine (zr rfl (bM iZ.book rfl ⟨tm,zr rfl ⟨.inr (bq.of iZ.meets),aH rfl rfl ⟨ps.length + 1,by rw [zA];rfl,by omega,?_⟩⟩⟩));refine (let W11:IV:=λi σ H5=>∃ A,(∃ v3 v4,σ=[some (.ref b),some (.ref l),some (.ref lp),v3,v4])/\au H H5/\gR H H5 lp aa.length (2 ^ ws.length) (ps.map (·.2)) (wq ws) A i;sJ W11 ⟨[],⟨_,_,rfl⟩,s1,k1,(λ_ z=>nomatch z),(λ_ z=>nomatch z),rfl,(λ_ z=>absurd z (zd _))⟩ ?_ ?_)
  ·rintro i σ H5 hi ⟨A,⟨v3,v4,rfl⟩,s5,d5⟩;have ej:((ps.length + 1:Nat):Int) - 1 + (i:Nat) * -1=((ps.length - i:Nat):Int):=by omega
   rw [ej];have Mj:=cx.same s5;obtain ⟨v,F,fo,eF,hv⟩:=d5.via (K:=K) (σ:=[some (.ref b),some (.ref l),some (.ref lp),some (.int ((ps.length - i:Nat):Int)),v4]) rfl;refine (zr rfl ⟨_,.inl ⟨_,aG.of d5.top,rfl⟩,hv _ ?_⟩);have hF:∀ G,F=some G->ps.length - i < ps.length:=λG z=>by
    by_cases e:i=0
    ·rw [if_pos e] at eF;rw [eF] at z;cases z
    ·omega
   have OI:=Mj.bk;refine (zr rfl ⟨.inl ⟨rfl,_,aG.of d5.top⟩,zr rfl (bM OI.book rfl ⟨tr,zr rfl ⟨.inr (bq.of OI.aa),zr rfl ⟨by rw [zA];omega,by rw [zA];omega,?_⟩⟩⟩)⟩);rw [show (((aa.map V.int).length:Nat):Int).toNat=aa.length by rw [zA];rfl];refine (let W12:IC:=λw0 τ acc H6=>∃ B:List ou,(∃ t0,τ=[t0,some (.ref b),some (.ref l),some (.int ((ps.length - i:Nat):Int)),some v])/\acc=(B.map λb=>V.ref b.1)/\B.length=w0/\au H5 H6/\MC H H6 lp (2 ^ ws.length) (ps.map (·.2)) (wq ws) (ps.length - i) F B;gO (lo:=0) (m:=aa.length) W12 ⟨[],⟨_,rfl⟩,rfl,rfl,au.refl _,MC.nil⟩ (by omega) ?_ ?_ ?_)
   ·rintro w0 τ acc H6 ⟨B,_,rfl,e,_,_⟩;rw [zA,e];exact zE _
   ·rintro w0 τ acc H6 C hw ⟨B,⟨t0,rfl⟩,rfl,e,s6,rB⟩ hC;rw [xM];refine (zr rfl (zr rfl (zr rfl (zr rfl (zr rfl (QI b l (ps.length - i) w0 v aa tr tm ps ws F ⟨rfl,Mj.same s6,hw,fo.same s6,hF,λlr r H7 s7 f7 k7 l7 d7=>?_⟩))))));refine hC _ _ _ ⟨B++[(lr,r)],⟨_,rfl⟩,by rw [zG];rfl,by rw [zN,e];rfl,s6.trans s7,(rB.same s7).snoc k7 l7 ((s5.trans s6).free f7) ?_ (by rw [e];exact d7)⟩;exact Ne.symm (xT (s6 _ _ d5.top) f7)
   ·rintro τ acc H6 ⟨B,⟨t0,rfl⟩,rfl,e,s6,rB⟩ la Xu;have s7:=xU (o:=HO.lst (B.map λb=>V.ref b.1)) Xu;have k7:upd H6 la (HO.lst (B.map λb=>V.ref b.1)) la=some (.lst (B.map λb=>V.ref b.1)):=xS;generalize upd H6 la _=H7 at s7 k7 ⊢;have d7:=(d5.same s6).same s7;have ne:la≠lp:=Ne.symm (xT (s6 _ _ d5.top) Xu);have lA:A.length=i:=d5.len;refine ⟨lp,aH rfl rfl ⟨d7.top,by rw [zA];omega,A++[(la,B)],⟨_,_,rfl⟩,au.put Zm ((s5.trans s6).trans s7),?_⟩⟩;have bt:∀ c u,c≠lp->H7 c=some u->upd H7 lp (.lst (A.map (λa=>V.ref a.1)++[V.ref la])) c=some u:=λc u n k=>by rw [xX n];exact k
    have Uh:=rB.same s7;refine d7.snoc (F:=F) bt xS (bt _ _ ne k7) ((s5.trans s6).free Xu) ne e ⟨λx hx=>⟨bt _ _ (Uh.row x hx).2.2.2 (Uh.row x hx).1,(Uh.row x hx).2⟩,?_⟩ eF;rw [zA];exact Uh.dp
  ·rintro σ H5 ⟨A,⟨v3,v4,rfl⟩,s5,d5⟩;have gd:=cx.gd;have lA:A.length=ps.length + 1:=d5.len;have nA:(ps.map (·.2)).length=ps.length:=zA _;rw [<-nA] at d5;refine (zr rfl ⟨lp,zr rfl ⟨aG.of d5.top,λlq hq=>?_⟩⟩);have s6:=xU (o:=HO.lst (A.map λa=>V.ref a.1).reverse) hq;have k6:upd H5 lq (HO.lst (A.map λa=>V.ref a.1).reverse) lq=some (.lst (A.map λa=>V.ref a.1).reverse):=xS;generalize upd H5 lq _=H6 at s6 k6 ⊢;rw [<-List.map_reverse] at k6;rw [qC ws |>.symm] at d5;have pr:=d5.pr gd s6 k6;rw [nA,qC] at pr;exact q lq A.reverse H6 (s5.trans s6) (s5.free hq) (λa ha=>⟨(d5.str a (yP.mp ha)).2.2.1,λb hb=>(d5.row a (yP.mp ha) b hb).2.2.1⟩) pr (d5.done gd)
theorem D8:aA ["kept", "given", "some"] ["kept", "given", "some"] (aq CJ):=L2.bf
theorem Gg (T:Tx K mg a ak ai ah)(B:aS mg base):aO P w K mg base bZ 4 a.AB a.Az ["kept", "given", "some"] (KP a.tP cu):=by
 have Gd:=GL P w base T B;refine T.A6.okC T.V8 D8 (λvs H Q E h=>?_) (λA outer s H vs Q E hr h=>?_)
 ·obtain ⟨_,_,_,_,_,_,rfl,_⟩:=h;rfl
 ·have nd:=D8.nd;have hu:=hr.units;obtain ⟨lk,lg,s,xs,ys,sz,rfl,k1,k2,e1,e2,hs,YM,mt,q⟩:=h;refine ⟨_,(xP (xp (xh (u9 (caps:=[0,1]) (pn := "pair") rfl rfl T.qk rfl T.V7 B rfl (hr.mono (by decide)) (show iM ["pair"] [0,1] ["kept", "given", "some"] (aq CJ) _ from ⟨rfl,rfl,rfl,by decide +kernel,by decide +kernel,by decide +kernel,by decide +kernel,by decide +kernel⟩) (λ_ _ _ _ _=>rfl) (λ_ _ _ _ _=>(xj xu (xc (xb rfl) (pv 1) (xc (xi rfl) (pv 0) xR (λ_ _=>rfl)) (λ_ _=>rfl)) (xc (xb rfl) (pv 2) (xc (xi rfl) (pv 0) xR (λ_ _=>rfl)) (λ_ _=>rfl)))) (xZ Gd (hr.mono (by decide)) rfl T.Id T.Il T.Iw .nil av (xO (xQ (pv 2) xY rfl))) rfl)))),?_⟩;have line:=bE;refine (zr rfl ⟨s,rfl,by omega,λl0 rs H1 s1 kl kr es=>?_⟩);have WD:=mt.cW s1;have ge:∀ {z:Addr}{ns:List Int}{H':Hp},H z=some (.lst (ns.map V.int))->cL a.tP H1 H'->H' z=some (.lst (ns.map V.int)):=λk bt=>bt _ _ (mt.Lm k) (s1 _ _ k);refine ⟨l0,rs.map (λr=>(r.1,[(r.2.1:Int),(r.2.2:Int)])),(λz=>xs.getD (z.getD 0 0).toNat 0 + ys.getD (z.getD 1 0).toNat 0),rfl,by rw [yF];exact kl,?_,WD,λx hx=>?_,λx hx H' bt=>?_,λx H2 hx best bt mt2=>?_⟩
  ·rw [zA];have:(0,s)∈rs.map (·.2):=by rw [es];exact cS.mpr ⟨⟨zc _,Nat.zero_and _⟩,rfl⟩
   obtain ⟨r,hr,_⟩:=zQ.mp this;exact List.length_pos_of_mem hr
  ·obtain ⟨r,hr,rfl⟩:=zQ.mp hx;exact kr r hr
  ·obtain ⟨r,hr,rfl⟩:=zQ.mp hx;have le:=split_le (s:=s) (r:=r.2) (by rw [<-es];exact yI hr);have k:=bt _ _ (WD.rY (kr r hr)) (kr r hr);refine (zr rfl (zr rfl (bM k rfl (bw (ge k1 bt) (qJ (by omega)) (zr rfl (zr rfl (bM k rfl (bw (ge k2 bt) (qJ (by omega)) (aH rfl rfl ⟨rfl,au.refl _⟩)))))))))
  ·obtain ⟨r,hr,rfl⟩:=zQ.mp hx;have mr:r.2∈fj s:=by rw [<-es];exact yI hr
   obtain ⟨r0,p,q0⟩:=r;obtain ⟨⟨_,b2⟩,rfl⟩:=cS.mp mr;refine q r0 p H2 (λb u n e=>bt b u n (s1 b u e)) mt2 (bt _ _ (WD.rY (kr _ hr)) (kr _ hr)) (cR.mp b2) λp' sp=>?_;have:(p',s - p')∈rs.map (·.2):=by rw [es];exact cS.mpr ⟨⟨sp.le,cR.mpr sp⟩,rfl⟩
   obtain ⟨r',qz,e'⟩:=zQ.mp this;have:=best _ (yI qz);rw [e'] at this;exact this
theorem FE:aA ["book", "sender", "since", "wishes", "prices", "givings", "parts", "stretch", "walker", "some", "following", "other", "part", "rest"] ["book", "sender", "since", "wishes", "prices"] (aq wH):=L2.bf
theorem IS (T:Tx K mg a ak ai ah)(B:aS mg base):aO P w K mg base bZ 5 a.BW a.CL ["book", "sender", "since", "wishes", "prices"] (KI a.tP cu):=by
 have Fd:=FK P w base T B;have Et:=Fl P w base T B;have Gf:=GM P w base T B;have DB:=Eh P w base T B;have HG:=Gg P w base T B;refine T.Cn.ok FE (λvs H Q E h=>?_) (λbI A outer s H vs Q E hr h=>?_)
 ·obtain ⟨_,_,_,_,_,_,_,_,_,_,_,rfl,_⟩:=h;rfl
 ·have nd:=FE.nd;have hu:=hr.units;obtain ⟨b,k,a0,l,lp,aa,tr,tm,ps,ws,P,rfl,cx,hk,dp,fin,own,mt,q⟩:=h;refine bT ?_;intro Y
  let B0:Bk Y ((nb (aj wH) 2).drop 9):=⟨_,(xP (xp (wf (di zU zZ za wL (pv 6) (xO (xQ (wB (xO (xQ (xj xu (pv 7) xR) (xQ (pv 11) (xQ (pv 13) xY rfl) rfl) rfl))) xY rfl))))))⟩
  let B1:Bk Y ((nb (aj wH) 2).drop 8):=⟨_,(xP (xl (wf (di zU zZ za wL (pv 6) (xO (xQ (wB (xO (xQ (xj xu (pv 7) xR) (xQ (pv 8) (xQ (pv 12) xY rfl) rfl) rfl))) xY rfl)))) B0.bl))⟩
  let B2:Bk Y ((nb (aj wH) 2).drop 7):=⟨_,(xP (xl (wf (di zU zZ za wL (pv 5) (xO (xQ (wB (xO (xQ (pv 7) (xQ (pv 8) xY rfl) rfl))) xY rfl)))) B1.bl))⟩
  let B3:Bk Y ((nb (aj wH) 2).drop 6):=⟨_,(xP (xl (wd (xZ HG (hr.mono (by decide)) rfl T.G4 T.Ha T.Hg .nil av (xO (xQ (xc (xb rfl) (pv 10) (pv 8) (λ_ _=>rfl)) (xQ (xc (xb rfl) (pv 10) (pv 11) (λ_ _=>rfl)) (xQ (pv 9) xY rfl) rfl) rfl))) (xw (n:=2) rfl rfl (xV (xW (i:=12) nd rfl rfl) (xV (xW (i:=13) nd rfl rfl) xv)))) B2.bl))⟩
  let B4:Bk Y ((nb (aj wH) 2).drop 5):=⟨_,(xP (xl (xn (i:=11) nd rfl rfl (xZ Et (hr.mono (by decide)) rfl T.FS T.FW T.F3 .nil av (xO (xQ (pv 0) (xQ (pv 7) (xQ (pv 8) xY rfl) rfl) rfl)))) B3.bl))⟩
  let B5:Bk Y (nb (nb (aj wH) 2) 4):=⟨_,(xP (xl (wf (di zU zZ za wL (pv 6) (xO (xQ (wB (xO (xQ (xj xu (pv 7) xR) (xQ (pv 8) (xQ (pv 9) xY rfl) rfl) rfl))) xY rfl)))) (xp ji)))⟩
  let B6:Bk Y ((nb (aj wH) 2).drop 4):=⟨_,(xP (xl (xt (xo qH (xc (xb rfl) (xc (xb rfl) (xc (xb rfl) (pv 4) (pv 7) (λ_ _=>rfl)) (pv 8) (λ_ _=>rfl)) (pv 9) (λ_ _=>rfl)) (xc (xb rfl) (xc (xb rfl) (pv 10) (pv 8) (λ_ _=>rfl)) (pv 9) (λ_ _=>rfl)) (aB _)) B5.ps xk) B4.bl))⟩
  let B7:Bk Y ((nb (aj wH) 2).drop 2):=⟨_,(xP (xl (xt (xo qH (pv 9) xR (aB _)) (xP (xp ji)) xk) (xl (xn (i:=10) nd rfl rfl (xc (xb rfl) (pv 4) (xj xu (pv 7) xR) (λ_ _=>rfl))) B6.bl)))⟩
  let B8:Bk Y ((nb (aj wH) 2).drop 1):=⟨_,(xP (xl (xn (i:=9) nd rfl rfl (xZ DB (hr.mono (by decide)) rfl T.EI T.EL T.EO .nil av (xO (xQ (pv 0) (xQ (pv 3) (xQ (pv 7) (xQ (pv 8) (xQ (pv 9) xY rfl) rfl) rfl) rfl) rfl)))) B7.bl))⟩
  let B9:Bk Y (nb (aj wH) 2):=⟨_,(xP (xl (wd (PD zU PySem.F.slot_list_pop PySem.F.type_list_pop PX (pv 6)) (xw (n:=3) rfl rfl (xV (xW (i:=7) nd rfl rfl) (xV (xW (i:=8) nd rfl rfl) (xV (xW (i:=9) nd rfl rfl) xv))))) B8.bl))⟩
  let T3:Bk Y ((aj wH).drop 1):=⟨_,(xP (xl (xn (i:=6) nd rfl rfl (wI (xO (xQ (wB (xO (xQ (xZ Fd (hr.mono (by decide)) rfl T.GO T.GR T.GU .nil av (xO (xQ (pv 0) (xQ (pv 2) xY rfl) rfl))) (xQ (pv 1) (xQ (xZ Gf (hr.mono (by decide)) rfl T.Ig T.Io T.Iy .nil av (xO (xQ (pv 3) xY rfl))) xY rfl) rfl) rfl))) xY rfl)))) (xl (pF PassesOwn.never (pD (pv 6) (λ_=>rfl)) B9.ps) (xp (xh (xg (kG) (by rfl) T.qj PyProof.Rows.boot_sorted (xO (xQ (pv 5) xY rfl))))))))⟩
  refine ⟨_,(xP (xl (xn (i:=5) nd rfl rfl (wI cg)) T3.bl)),?_⟩;have line:=bE;have w4:=cx.w4;have gd:=cx.gd;have Ow:ps.length<=60:=gd.len;have Ov:=l5 w4;have p0:=yM ws.length;have eK:(wq ws).length=ws.length:=qC ws;have nm:(ps.map (·.2)).length=ps.length:=zA _;have LD:∀ x∈wq ws,x.1 < aa.length:=λx hx=>by
   obtain ⟨y,hy,rfl⟩:=zQ.mp hx;exact (cx.wa.2 y hy).2
  have fr:=dp.LX gd LD;refine ⟨zc _,λlg Zo=>?_⟩;have s1:=xU (o:=HO.lst []) Zo;have k1:upd H lg (HO.lst []) lg=some (.lst []):=xS;generalize upd H lg (HO.lst [])=H1 at s1 k1 ⊢;have Z2:=cx.same s1;refine (zr rfl (zr rfl (UQ b a0 aa tr tm ps ⟨rfl,Z2.bk,by omega,λH2 s2=>?_⟩)));have cx2:=Z2.same s2;refine (zr rfl (zr rfl ⟨l,ws,zr rfl ⟨cx2.wa,by omega,by show 3<=sizeLine;omega,λt ht=>?_⟩⟩));have s3:=xU (o:=HO.tup [V.int (cnt (ps.map (·.2)) a0:Nat),V.int (k:Int),V.int (((2 ^ ws.length:Nat):Int) - 1)]) ht;have k3:upd H2 t (HO.tup [V.int (cnt (ps.map (·.2)) a0:Nat),V.int (k:Int),V.int (((2 ^ ws.length:Nat):Int) - 1)]) t=some (.tup [V.int (cnt (ps.map (·.2)) a0:Nat),V.int (k:Int),V.int ((2 ^ (wq ws).length - 1:Nat):Int)]):=by
   rw [xS,eK,show ((2 ^ ws.length - 1:Nat):Int)=((2 ^ ws.length:Nat):Int) - 1 by omega]
  generalize upd H2 t _=H3 at s3 k3 ⊢;refine ⟨by show 1<=sizeLine;omega,λlq Xp=>?_⟩;have s4:=xU (o:=HO.lst [V.ref t]) Xp;have k4:upd H3 lq (HO.lst [V.ref t]) lq=some (.lst [V.ref t]):=xS;generalize upd H3 lq (HO.lst [V.ref t])=H4 at s4 k4 ⊢;have YN:=(s2.trans s3).trans s4;have YQ:=s1.trans YN;have L4:fM a.tP cu H H4 lg lq [] [(t,(cnt (ps.map (·.2)) a0,k,2 ^ (wq ws).length - 1))]:=
   ⟨au.ux YQ,mt.cW YQ,Zo,((s1.trans s2).trans s3).free Xp,xT ((s2.trans s3) _ _ k1) Xp,YN _ _ k1,k4,(λ_ z=>nomatch z),λx hx=>by cases zP.mp hx;exact s4 _ _ k3⟩
  refine Yj ?_;refine MZ (m0:=fE (ps.map (·.2)).length ([(t,(cnt (ps.map (·.2)) a0,k,2 ^ (wq ws).length - 1))].map (·.2))) (λm σ H5=>∃ G:List (Addr×Nat×Nat),∃ Qs:List (Addr×eZ),(∃ v7 v8 v9 v10 v11 YC YB,σ=[some (.ref b),some (.int (k:Int)),some (.int a0),some (.ref l),some (.ref lp),some (.ref lg),some (.ref lq),v7,v8,v9,v10,v11,YC,YB])/\m=fE (ps.map (·.2)).length (Qs.map (·.2))/\fM a.tP cu H H5 lg lq G Qs/\kO Qs/\bG (ps.map (·.2)) (bg (aD P)) aa.length (wq ws) k a0 (G.map (·.2)) (Qs.map (·.2))) ⟨[],_,⟨_,_,_,_,_,_,_,rfl⟩,rfl,L4,(λi x h=>by cases i with | zero=>exact zc _ | succ i=>cases h),bG.start hk⟩ ?_ ?_
  ·rintro m σ H5 ⟨G,Qs,⟨v7,v8,v9,v10,v11,YC,YB,rfl⟩,rfl,L5,M8,ex⟩;rcases List.eq_nil_or_concat Qs with rfl | ⟨Q0,⟨q0,j,w0,s⟩,eQ⟩
   ·refine (zr rfl ⟨false,.inl ⟨_,aG.of L5.kq,rfl⟩,az rfl ?_⟩);have eG:=ex.c;have sG:=ex.s;rw [yX,yX,List.sum_nil,Int.add_zero] at eG;obtain ⟨T,h,V6,sv,lT,pT,tT⟩:=O6 fr gd hk (G:=G.map (·.2)) eG (λk x hx=>by
     rcases sG k x hx with ⟨y,hy,_⟩ | h
     ·cases hy
     ·exact h) own
    rw [eK] at eG lT;rw [zA] at eG;refine (zr rfl ⟨lg,G.map (λx=>(x.1,[(x.2.1:Int),(x.2.2:Int)])),rfl,by rw [yF];exact aG.of L5.kg,by rw [zA];omega,λy hy=>?_,λls qs Zl pm srt=>?_⟩)
    ·obtain ⟨x,hx,rfl⟩:=zQ.mp hy;exact ⟨L5.pg x hx,List.cons_ne_nil _ _⟩
    ·obtain ⟨Tl,pl,rfl,eT⟩:=Pa pm srt pT tT;rw [yF];have s6:=xU (o:=HO.lst (Tl.map λx=>V.ref x.1)) Zl;refine q ls Tl h _ (L5.bt.rQ s6) (L5.mt.cW s6) (LU L5.mt L5.bt Zl) ⟨xS,λx hx=>s6 _ _ (L5.pg x (pl.mem_iff.mp hx)),by rw [eT];exact V6,sv⟩ ?_;rw [<-eT,zA] at lT;exact lT
   ·rw [List.concat_eq_append] at eQ;subst eQ;rw [zG] at ex;obtain ⟨hj,hw,hs,has⟩:=ex.last;rw [eK] at hs;rw [nm] at hj;refine (zr rfl ⟨true,.inl ⟨_,aG.of L5.kq,by rw [zG];cases Q0 <;> rfl⟩,aT rfl ?_⟩);refine (zr rfl ⟨.inl ⟨rfl,_,aG.of L5.kq⟩,lq,_,V.ref q0,rfl,rfl,L5.kq,by rw [zG,zN,zY (by simp)];simp,?_⟩);rw [show (List.map (λx=>V.ref x.1) (Q0++[(q0,j,w0,s)])).dropLast=Q0.map λx=>V.ref x.1 by rw [zG];exact List.dropLast_concat];have kx:=L5.pq _ (zJ _ (.head _));have L6:=L5.RT (Q':=Q0) λx hx=>L5.pq x (zX _ hx);have k6:upd H5 lq (.lst (Q0.map λx=>V.ref x.1)) q0=some (.tup [.int (j:Int),.int (w0:Int),.int (s:Int)]):=by rw [xX (bY kx L5.kq (by intro z;cases z))];exact kx
    generalize upd H5 lq (.lst (Q0.map λx=>V.ref x.1))=H6 at L6 k6 ⊢;have qd:=cx.iG mt L6.bt;refine (un3 k6 ?_);refine (zr rfl (zr rfl (zr rfl (zr rfl (zr rfl (LY b l j w0 s aa tr tm ps ws ⟨rfl,qd.cb,hs,λH7 s7=>?_⟩))))));have L7:=L6.same s7;have qb:=qd.same s7;refine (zr rfl ⟨rfl,zr rfl ?_⟩);have m1:fE (ps.map (·.2)).length ((Q0++[(q0,j,w0,s)]).map (·.2))=fE (ps.map (·.2)).length (Q0.map (·.2)) + 3 ^ (ps.length - j):=by rw [zG,<- nm];exact iy _ _ _
    have pw0:=Nat.pow_pos (n:=ps.length - j) (show 0 < 3 by decide);by_cases e0:aC (ps.map (·.2)) (wq ws) j w0 s=0
    ·refine aT (decide_eq_true (by rw [e0];rfl)) ⟨_,?_,G,Q0,⟨_,_,_,_,_,_,_,rfl⟩,rfl,L7,M8.pop.1,ex.drop dp fr e0⟩;rw [m1];omega
    refine az (decide_eq_false (λz=>e0 (Int.ofNat.inj (V.int.inj z)))) ?_;have lt:=ex.ND dp gd (by rw [nm,eK];exact fin) e0;rw [nm] at lt;have os:=(wW (ms:=ps.map (·.2)) (j:=j) (w:=w0) (s:=s) (ws:=wq ws) (by rw [eK];exact hs)).lt hs;obtain ⟨A1,B1,ZN,ZL,WG,mB1,lB1,V2⟩:=qb.pr.get (j:=j + 1) (k:=w0) lt hw;obtain ⟨A0,B0,S7,S6,r6,Ox,Rk,V3⟩:=qb.pr.get (j:=j) (k:=w0) hj hw;refine (zr rfl (zr rfl (aH rfl rfl (bw qb.pr.top (xq (j:=j + 1) (by rw [zD,ZN];rfl)) ?_))));have Wi:=qb.pr.str A1 WG;have YK:=qb.pr.row A1 WG B1 mB1;have gB1:dI (B1.2.map V.int) ((aC (ps.map (·.2)) (wq ws) j w0 s:Nat):Int)=some (.int (bg (aD P) (j + 1) w0 (aC (ps.map (·.2)) (wq ws) j w0 s))):=by rw [<-V2];exact qJ (by omega)
    have gB0:dI (B0.2.map V.int) ((aC (ps.map (·.2)) (wq ws) j w0 s:Nat):Int)=some (.int (bg (aD P) j w0 (aC (ps.map (·.2)) (wq ws) j w0 s))):=by rw [<-V3];exact qJ (by omega)
    refine (zr rfl (zr rfl (bw qb.pr.top (xq (by rw [zD,S7];rfl)) (zr rfl (bw (qb.pr.str A0 r6) (xq (by rw [zD,S6];rfl)) (zr rfl (bw (qb.pr.row A0 r6 B0 Ox) gB0 ?_)))))));refine (zr rfl (zr rfl (bw Wi (xq (by rw [zD,ZL];rfl)) (zr rfl (bw YK gB1 ⟨rfl,zr rfl ?_⟩)))));have pw1:=Wu ps.length j lt;have sq:Q0.length<=j + 1:=M8.pop.2;by_cases e1:bg (aD P) j w0 (aC (ps.map (·.2)) (wq ws) j w0 s)=bg (aD P) (j + 1) w0 (aC (ps.map (·.2)) (wq ws) j w0 s)
    ·refine aT (decide_eq_true (by rw [e1])) ?_;refine (zr rfl ⟨.inl ⟨rfl,_,aG.of L7.kq⟩,zr rfl (aH rfl rfl (zr rfl (zr rfl ⟨by show 3<=sizeLine;omega,λt1 kU=>?_⟩)))⟩);have s8:=xU (o:=HO.tup [V.int ((j:Int) + 1),V.int (w0:Int),V.int ((aC (ps.map (·.2)) (wq ws) j w0 s:Nat):Int)]) kU;have k8:upd H7 t1 (HO.tup [V.int ((j:Int) + 1),V.int (w0:Int),V.int ((aC (ps.map (·.2)) (wq ws) j w0 s:Nat):Int)]) t1=some (.tup [V.int ((j + 1:Nat):Int),V.int (w0:Int),V.int ((aC (ps.map (·.2)) (wq ws) j w0 s:Nat):Int)]):=xS;generalize upd H7 t1 _=H8 at s8 k8 ⊢;have L8:=L7.same s8;refine ⟨lq,aH rfl rfl ⟨L8.kq,by rw [zA];omega,_,?_,G,Q0++[(t1,(j + 1,w0,aC (ps.map (·.2)) (wq ws) j w0 s))],⟨_,_,_,_,_,_,_,rfl⟩,rfl,L8.QW k8,M8.pop.1.push (by show Q0.length<=j + 1 + 1;omega),?_⟩⟩
     ·rw [m1,zG,show fE (ps.map (·.2)).length (Q0.map (·.2)++[(t1,(j + 1,w0,aC (ps.map (·.2)) (wq ws) j w0 s))].map (·.2))=fE (ps.map (·.2)).length (Q0.map (·.2)) + 3 ^ (ps.length - (j + 1)) by rw [<-nm];exact iy _ _ _];omega
     ·rw [zG];exact ex.go dp (by rw [nm];exact lt) e1
    ·refine az (decide_eq_false (λz=>e1 (V.int.inj z))) ?_;obtain ⟨o,tt,lk,gv⟩:=QE dp (by rw [nm];exact lt) hw (by rw [eK];exact hs) e0 e1;obtain ⟨mm,Qo,Z1,UT⟩:=id lk;obtain ⟨ho,oW,_⟩:=lk.inside gd;have fx:=gd.each mm (zB Qo);have eo:(if (w0:Int)=mm.lo then mm.hi else mm.lo)=(o:Int):=by
      rcases UT with ⟨c1,c2⟩ | ⟨c1,c2⟩ <;> (split <;> omega)
     have X6:=ex.iN dp gd (by rw [nm,eK];exact fin);rw [zA,nm] at X6;refine (zr rfl (zr rfl (zr rfl (Z0 b j w0 aa tr tm ps mm ⟨rfl,qb.bk,Qo,?_⟩))));rw [eo];obtain ⟨A2,B2,ZM,hB2,mA2,mB2,lB2,YA⟩:=qb.pr.get (j:=j + 1) (k:=o) lt oW;obtain rfl:A1=A2:=by rw [ZN] at ZM;exact Option.some.inj ZM
     refine (zr rfl (zr rfl (bw Wi (xq (by rw [zD,ZL];rfl)) (zr rfl (zr rfl (bw Wi (xq (by rw [zD,hB2];rfl)) (zr rfl ⟨B1.1,B2.1,aC (ps.map (·.2)) (wq ws) j w0 s,B1.2,B2.2,2 ^ ws.length,rfl,YK,qb.pr.row A1 WG B2 mB2,lB1,lB2,os,Ov,L7.mt,λt2 p H8 b8 Ut k8 sp mn=>?_⟩)))))));have L8:=L7.but b8 Ut;refine (oO k8 ?_);refine (zr rfl ⟨.inl ⟨rfl,_,aG.of L8.kg⟩,zr rfl (zr rfl ⟨by show 2<=sizeLine;omega,λt3 Xe=>?_⟩)⟩);have s9:=xU (o:=HO.tup [V.int (j:Int),V.int (w0:Int)]) Xe;have k9:upd H8 t3 (HO.tup [V.int (j:Int),V.int (w0:Int)]) t3=some (.tup [V.int (j:Int),V.int (w0:Int)]):=xS;generalize upd H8 t3 _=H9 at s9 k9 ⊢;have L9:=L8.same s9;refine ⟨lg,aH rfl rfl ⟨L9.kg,by rw [zA];omega,?_⟩⟩;have Ys:=L9.Yk (x:=(j,w0)) k9;generalize upd H9 lg _=vS at Ys ⊢;refine (zr rfl ⟨.inl ⟨rfl,_,aG.of Ys.kq⟩,zr rfl (aH rfl rfl (zr rfl (zr rfl ⟨by show 3<=sizeLine;omega,λt4 Xd=>?_⟩)))⟩);have KU:=xU (o:=HO.tup [V.int ((j:Int) + 1),V.int (w0:Int),V.int (p:Int)]) Xd;have Ze:upd vS t4 (HO.tup [V.int ((j:Int) + 1),V.int (w0:Int),V.int (p:Int)]) t4=some (.tup [V.int ((j + 1:Nat):Int),V.int (w0:Int),V.int (p:Int)]):=xS;generalize upd vS t4 _=Q6 at KU Ze ⊢;have Z9:=Ys.same KU;refine ⟨lq,aH rfl rfl ⟨Z9.kq,by rw [zA];omega,?_⟩⟩;have Yr:=Z9.QW (x:=(j + 1,w0,p)) Ze;generalize upd Q6 lq _=Q5 at Yr ⊢;refine (zr rfl ⟨.inl ⟨rfl,_,aG.of Yr.kq⟩,zr rfl (aH rfl rfl (zr rfl (zr rfl ⟨by show 3<=sizeLine;omega,λt5 ht5=>?_⟩)))⟩);have YO:=xU (o:=HO.tup [V.int ((j:Int) + 1),V.int (o:Int),V.int ((aC (ps.map (·.2)) (wq ws) j w0 s - p:Nat):Int)]) ht5;have Zd:upd Q5 t5 (HO.tup [V.int ((j:Int) + 1),V.int (o:Int),V.int ((aC (ps.map (·.2)) (wq ws) j w0 s - p:Nat):Int)]) t5=some (.tup [V.int ((j + 1:Nat):Int),V.int (o:Int),V.int ((aC (ps.map (·.2)) (wq ws) j w0 s - p:Nat):Int)]):=xS;generalize upd Q5 t5 _=H13 at YO Zd ⊢;have Z8:=Yr.same YO;refine ⟨lq,aH rfl rfl ⟨Z8.kq,by rw [zA,zN];show Q0.length + 1 < _;omega,_,?_,G++[(t3,(j,w0))],Q0++[(t4,(j + 1,w0,p))]++[(t5,(j + 1,o,aC (ps.map (·.2)) (wq ws) j w0 s - p))],⟨_,_,_,_,_,_,_,rfl⟩,rfl,Z8.QW Zd,(M8.pop.1.push (by show Q0.length<=j + 1 + 1;omega)).push (by rw [zN];show Q0.length + 1<=j + 1 + 1;omega),?_⟩⟩
     ·rw [m1,zG,zG,show fE (ps.map (·.2)).length (Q0.map (·.2)++[(t4,(j + 1,w0,p))].map (·.2)++[(t5,(j + 1,o,aC (ps.map (·.2)) (wq ws) j w0 s - p))].map (·.2))=fE (ps.map (·.2)).length (Q0.map (·.2)) + 3 ^ (ps.length - (j + 1)) + 3 ^ (ps.length - (j + 1)) by rw [<-nm];exact (iy _ _ _).trans (congrArg (· + _) (iy _ _ _))];have:0 < 3 ^ (ps.length - (j + 1)):=Nat.pow_pos (by decide);omega
     ·rw [zG,zG,zG];refine ex.give dp gd lk sp (gv p sp λp' Wf=>?_);rw [<-V2,<- V2,<- YA,<- YA];exact mn p' Wf
  ·rintro σ H5 Q1 Q2 h ⟨v,e,k',t',c⟩;exact ⟨v,e,k',t',h _ _ c⟩
theorem GH:aA ["book", "sender", "since", "wishes", "number", "walker", "last", "prices"] ["book", "sender", "since", "wishes"] (aq Cu):=L2.bf
theorem Jy (T:Tx K mg a ak ai ah)(B:aS mg base):aO P w K mg base bZ 6 a.Cz a.Df ["book", "sender", "since", "wishes"] (o7 a.tP cu):=by
 have Fc:=EG P w base T B;have Jv:=HZ P w base T B;have Ge:=Fx P w base T B;have JL:=IS P w base T B;refine T.CV.ok GH (λvs H Q E h=>?_) (λbI A outer s H vs Q E hr h=>?_)
 ·obtain ⟨_,_,_,_,_,_,_,_,_,rfl,_⟩:=h;rfl
 ·have nd:=GH.nd;have hu:=hr.units;obtain ⟨b,k,a0,l,aa,tr,tm,ps,ws,rfl,cx,r8,Ul,w1,hk,OV,OU,lst,mt,q⟩:=h;refine bT ?_;intro Y
  let B0:Bk Y ((aj Cu).drop 3):=⟨_,(xP (xp (xh (wB (xO (xQ jY (xQ (xZ JL (hr.mono (by decide)) rfl T.JA T.JC T.JE .nil av (xO (xQ (pv 0) (xQ (pv 1) (xQ (pv 2) (xQ (pv 3) (xQ (pv 7) xY rfl) rfl) rfl) rfl) rfl))) (xQ (pv 7) xY rfl) rfl) rfl))))))⟩
  let B1:Bk Y ((aj Cu).drop 2):=⟨_,(xP (xl (xn (i:=7) nd rfl rfl (xZ Ge (hr.mono (by decide)) rfl T.FT T.FX T.F4 .nil av (xO (xQ (pv 0) (xQ (pv 3) xY rfl) rfl)))) B0.bl))⟩
  let B2:Bk Y (nb (nb (aj Cu) 1) 0):=⟨_,(xP (xp (xh (wB (xO (xQ jY (xQ (pv 4) (xQ (xZ Fc (hr.mono (by decide)) rfl T.E1 T.E3 T.E4 .nil av (xO (xQ (pv 0) (xQ (pv 1) (xQ (pv 2) xY rfl) rfl) rfl))) xY rfl) rfl) rfl))))))⟩
  let B3:Bk Y (nb (aj Cu) 1):=⟨_,(xP (xp (xt (b9 (cH (xZ Jv (hr.mono (by decide)) rfl T.IZ T.Je T.Jj .nil av (xO (xQ (pv 0) (xQ (wB (xO (xQ (pv 1) (xQ (pv 2) (xQ (pv 5) (xQ (pv 6) xY rfl) rfl) rfl) rfl))) xY rfl) rfl))))) B2.ps xk)))⟩
  let B4:Bk Y ((aj Cu).drop 1):=⟨_,(xP (xl (wF PassesOwn.never rfl (ir rfl rfl T.bV (xO (xQ (pv 3) xY rfl))) (xw (n:=2) rfl rfl (xV (xW (i:=4) nd rfl rfl) (xV (xw (n:=2) rfl rfl (xV (xW (i:=5) nd rfl rfl) (xV (xW (i:=6) nd rfl rfl) xv))) xv))) B3.ps) B1.bl))⟩
  refine ⟨_,(xP (xl (xt (@PW.pt _ _ _ (wl (xo eU (xg (xf rfl) (by rfl) T.aU PySem.boot_len (xO (xQ (xc (xi rfl) (pv 0) xR (λ_ _=>rfl)) xY rfl))) (nB (v:=V.int 8) rfl T.eX ⟨_,rfl⟩) (aB _)) (wc (xo eU (xg (xf rfl) (by rfl) T.aU PySem.boot_len (xO (xQ (xc (xi rfl) (pv 0) xR (λ_ _=>rfl)) xY rfl))) (nB (v:=V.int 24) rfl T.dZ ⟨_,rfl⟩) (aB _))))) (xP (xp K6)) xk) B4.bl)),?_⟩;have line:=bE;have w4:=cx.w4;have gd:=cx.gd;have eK:(wq ws).length=ws.length:=qC ws;have hb:=cx.bk;refine (zr rfl (bM hb.book rfl ⟨tr,zr rfl ⟨.inr (bq.of hb.aa),aH rfl rfl (zr rfl ?_)⟩⟩));refine az (decide_eq_false (by rw [zA];omega)) (zr rfl (bM hb.book rfl ⟨tm,zr rfl ⟨.inr (bq.of hb.meets),aH rfl rfl (zr rfl ?_)⟩⟩));refine az (decide_eq_false (by rw [zA];omega)) ?_;refine (zr rfl ⟨l,rfl,⟨_,aG.of cx.wa.1⟩,?_⟩);refine (let W13:IV:=λi σ H5=>(∃ v4 v5 v6 v7,σ=[some (.ref b),some (.int (k:Int)),some (.int a0),some (.ref l),v4,v5,v6,v7])/\au H H5/\∀ j,j < i->∀ x,(wq ws)[j]?=some x->bX (fwd (ps.map (·.2)) (aE k a0) x.1) x.2=true;fV (K:=K) (a:=l) (xs:=ws.map λa=>V.ref a.1) W13 ⟨⟨_,_,_,_,rfl⟩,au.refl _,(λj z=>absurd z (zd _))⟩ ?_ ?_ ?_)
  ·rintro i σ H5 _ ⟨_,s5,_⟩;exact aG.of (s5 _ _ cx.wa.1)
  ·rintro i v q0 σ H5 hv hq ⟨⟨v4,v5,v6,v7,rfl⟩,s5,old⟩;obtain ⟨x,hx,rfl⟩:=xz hv;have Rl:(wq ws)[i]?=some x.2:=by unfold wq;rw [zD,hx];rfl
   have s6:=s5.trans (xU (o:=HO.tup [V.int (i:Int),V.ref x.1]) hq);have kq:upd H5 q0 (HO.tup [V.int (i:Int),V.ref x.1]) q0=some (.tup [V.int (i:Int),V.ref x.1]):=xS;generalize upd H5 q0 (HO.tup [V.int (i:Int),V.ref x.1])=H6 at s6 kq ⊢;have qd:=cx.same s6;obtain ⟨kx,lx⟩:=qd.wa.2 x (zB hx);obtain ⟨z0,z9⟩:=lst x (zB hx);refine ⟨q0,zr rfl ⟨bq.of kq,rfl,kT rfl (kT rfl (oO kx ⟨rfl,?_⟩))⟩⟩;refine (zr rfl (zr rfl (zr rfl (zr rfl (zr rfl ⟨by show 4<=sizeLine;omega,λlt cN=>?_⟩)))));have s7:=s6.trans (xU (o:=HO.tup [V.int (k:Int),V.int a0,V.int (x.2.1:Int),V.int x.2.2]) cN);have k7:upd H6 lt (HO.tup [V.int (k:Int),V.int a0,V.int (x.2.1:Int),V.int x.2.2]) lt=some (.tup [V.int (k:Int),V.int a0,V.int (x.2.1:Int),V.int x.2.2]):=xS;generalize upd H6 lt (HO.tup [V.int (k:Int),V.int a0,V.int (x.2.1:Int),V.int x.2.2])=H7 at s7 k7 ⊢;have qb:=cx.same s7;have snoc:bX (fwd (ps.map (·.2)) (aE k a0) x.2.1) x.2.2=true->∀ j,j < i + 1->∀ x,(wq ws)[j]?=some x->bX (fwd (ps.map (·.2)) (aE k a0) x.1) x.2=true:=λup j hj y hy=>by
    by_cases e:j=i
    ·subst e;rw [Rl] at hy;cases hy;exact up
    ·exact old j (by omega) y hy
   refine (LY b lt k x.2.1 a0 x.2.2 aa tr tm ps ⟨rfl,qb.bk,by omega,gd,⟨k7,hk,lx,OV,OU,z0,z9⟩,λno H8 s8=>?_,λe l0 ns H8 ee ez hl s8 kl _ _=>?_⟩)
   ·have US:=qb.same s8;refine (zr rfl (aT rfl (zr rfl (zr rfl (zr rfl (zr rfl (vI b k a0 aa tr tm ps ⟨rfl,hk,US.bk,by omega,gd,λl1 H9 n9 s9 k9=>⟨by show 3<=sizeLine;omega,λt ht=>?_⟩⟩)))))));have jx:=xU (o:=HO.tup [V.str (Str.ofString "never"),V.int (i:Int),V.ref l1]) ht;have s:=(s7.trans s8).trans (s9.trans jx);exact q t _ (au.ux s) (mt.cW s) (.inl ⟨i,l1,xS,⟨⟨x.2,Rl,no⟩,old⟩,jx _ _ k9,(s7.trans s8).free n9⟩)
   ·exact (zr rfl (az rfl ⟨⟨_,_,_,_,rfl⟩,s7.trans s8,snoc (bJ.mpr ⟨e,ee,ez⟩)⟩))
  ·rintro σ H5 ⟨⟨v4,v5,v6,v7,rfl⟩,s5,all⟩;have Mj:=cx.same s5;have sv:bR (fwd (ps.map (·.2)) (aE k a0)) (wq ws):=λj x hx=>all j (by rw [zA,<- eK];exact (zC.mp hx).1) x hx;have LD:∀ x∈wq ws,x.1 < aa.length:=λx hx=>by
    obtain ⟨y,hy,rfl⟩:=zQ.mp hx;exact (cx.wa.2 y hy).2
   have nm:(ps.map (·.2)).length=ps.length:=zA _;refine (zr rfl (zr rfl (vI b l aa tr tm ps ws ⟨rfl,Mj,λlp P H6 s6 f6 fP pr dp=>?_⟩)));have qd:=Mj.same s6;have up:=m8 (dp.LX gd LD) gd hk sv;rw [nm,eK] at up;have Pq:=s5.trans s6;have Ri:=mt.cW Pq;refine (zr rfl (zr rfl (zr rfl (zr rfl (zr rfl (QI b k a0 l lp aa tr tm ps ws P ⟨rfl,⟨qd.bk,gd,cx.r1,cx.u0,qd.wa,w1,w4,pr⟩,hk,dp,up,λx hx e=>?_,Ri,λlt Tl h H7 b7 mt7 f7 tt len=>?_⟩))))))
   ·obtain ⟨j,hj⟩:=yA.mp hx;obtain ⟨y,hy,le⟩:=bJ.mp (sv j x hj);rw [e,p8] at hy;cases hy;exact le
   ·refine (zr rfl ⟨by show 3<=sizeLine;omega,λt ht=>?_⟩);have s8:=xU (o:=HO.tup [V.str (Str.ofString "tree"),V.ref lt,V.ref lp]) ht;have pr7:=pr.iG Ri b7;exact q t _ (((au.ux Pq).trans b7).rQ s8) (mt7.cW s8) (.inr ⟨lt,lp,Tl,h,P,xS,sv,⟨s8 _ _ tt.top,λx hx=>s8 _ _ (tt.row x hx),tt.tr,tt.sv⟩,by rw [nm];exact pr7.same s8,dp,len,⟨Pq.free f7,s5.free f6,λa ha=>⟨s5.free (fP a ha).1,λb hb=>s5.free ((fP a ha).2 b hb)⟩⟩,xT pr.top f7,λa ha=>⟨xT (pr.str a ha) f7,λb hb=>xT (pr.row a ha b hb) f7⟩⟩)
theorem FI:aA ["_law_book_here", "_law_time_here"] ["_law_book_here", "_law_time_here"] (aq D5):=L2.bf
theorem FP (T:Tx K mg a ak ai ah)(B:aS mg base):aO P w K mg base bZ 1 a.Ca a.CP ["_law_book_here", "_law_time_here"] (o8):=by
 refine T.Cr.ok FI (λvs H Q E h=>?_) (λbI A outer s H vs Q E hr h=>?_)
 ·obtain ⟨b,t,_,_,_,_,rfl,_⟩:=h;rfl
 ·have nd:=FI.nd;have hu:=hr.units;obtain ⟨b,t,aa,tr,tm,ps,rfl,hb,hn,q⟩:=h;refine ⟨_,(xP (xp (xh (xg (xf rfl) (by rfl) T.aU PySem.boot_len (xO (xQ (wu (own:=["_law_row"]) (caps:=[1]) rfl (show aM ["_law_row"] [1] ["_law_book_here", "_law_time_here"] (aq D5) _ from L2.i6) (fz rfl (xc (xi rfl) (pv 0) xR (λ_ _=>rfl))) (λ_ _ _ _=>(xW (i:=0) (show List.Nodup (["_law_row", "_law_time_here"]:List Str) from by decide +kernel) rfl rfl)) (λ_ _ _ _=>nk (xo j4 (xc (xi rfl) (pv 0) xR (λ_ _=>rfl)) (pv 1) (aB _))) (λ_ _ _ _=>(pv 0))) xY rfl)))))),?_⟩;refine (zr rfl (bM hb.book rfl ⟨tm,rfl,⟨_,bq.of hb.meets⟩,?_⟩));refine (let W14:IC:=λi τ acc H5=>(∃ t0,τ=[t0,some (.int t)])/\acc.length=cnt ((ps.map (·.2)).take i) t/\acc.length<=i/\au H H5;kD (K:=K) (a:=tm) (xs:=ps.map λa=>V.ref a.1) W14)
   ?_ (by rw [zA];omega) ?_ ?_ ?_
  ·exact ⟨⟨_,rfl⟩,rfl,zE _,au.refl _⟩
  ·rintro i τ acc H5 ⟨⟨t0,rfl⟩,_,le,sm⟩;exact ⟨le,bq.of (sm _ _ hb.meets)⟩
  ·rintro i x τ acc H5 C hx ⟨⟨t0,rfl⟩,ec,le,sm⟩ hC;obtain ⟨r,hr,rfl⟩:=xz hx;have eV:=sm _ _ (hb.rows r (zB hr));have hm:(ps.map (·.2))[i]?=some r.2:=by rw [zD,hr];rfl
   refine (zr rfl (bM eV rfl (zr rfl (aH rfl rfl (zr rfl (cY (λc=>(zr rfl (hC _ _ _ ?_))) (λc=>hC _ _ _ ?_)))))))
   ·exact ⟨⟨_,rfl⟩,by rw [iE hm,if_pos c,zN,ec];rfl,by rw [zN];exact xC le,sm⟩
   ·exact ⟨⟨_,rfl⟩,by rw [iE hm,if_neg c,ec];rfl,by omega,sm⟩
  ·rintro τ acc H5 ⟨⟨t0,rfl⟩,ec,le,sm⟩ l hl;have e:(ps.map λa=>V.ref a.1).length=(ps.map (·.2)).length:=by simp
   rw [e,zv] at ec;refine ⟨l,zr rfl ⟨.inl (aG.of xS),?_⟩⟩;rw [ec];exact q _ (sm.trans (xU hl))
theorem Ea:aA ["_law_book_here", "_law_sender", "_law_since", "_law_found", "_law_one", "_law_other", "_law_when", "_law_passed", "_law_giver", "_law_taker"] ["_law_book_here", "_law_sender", "_law_since"] (aq wy):=L2.bf
theorem Gh (T:Tx K mg a ak ai ah)(B:aS mg base):aO P w K mg base bZ 1 a.AD a.BA ["_law_book_here", "_law_sender", "_law_since"] (tF):=by
 refine T.A8.ok Ea (λvs H Q E h=>?_) (λbI A outer s H vs Q E hr h=>?_)
 ·obtain ⟨b,k,x,_,_,_,_,rfl,_⟩:=h;rfl
 ·have nd:=Ea.nd;have hu:=hr.units;obtain ⟨b,k,x,aa,tr,tm,ps,rfl,hk,hb,hn,gd,q⟩:=h;refine bT ?_;intro Y
  let B0:Bk Y (nb (nb (aj wy) 2) 0):=⟨_,(xP (xp (xt (@PW.pt _ _ _ (fk (b9 (fU (xc (xb rfl) (pv 3) (pv 8) (λ_ _=>rfl)))) (fk (xo jj (xc (xb rfl) (pv 3) (pv 8) (λ_ _=>rfl)) (pv 6) (aB _)) (dU (b9 (cH (xc (xb rfl) (pv 3) (pv 9) (λ_ _=>rfl)))))))) (xP (xp (wd (pv 6) (fB (pv 3) (pv 9) qI)))) xk)))⟩
  let B1:Bk Y (nb (aj wy) 2):=⟨_,(xP (xp (wF PassesOwn.never rfl (wP rfl (wI (xO (xQ (wB (xO (xQ (pv 4) (xQ (pv 5) xY rfl) rfl))) (xQ (wB (xO (xQ (pv 5) (xQ (pv 4) xY rfl) rfl))) xY rfl) rfl)))) (xw (n:=2) rfl rfl (xV (xW (i:=8) nd rfl rfl) (xV (xW (i:=9) nd rfl rfl) xv))) B0.ps)))⟩
  let B2:Bk Y ((aj wy).drop 2):=⟨_,(xP (xl (wF PassesOwn.never rfl (fz rfl (xc (xi rfl) (pv 0) xR (λ_ _=>rfl))) (xw (n:=4) rfl rfl (xV (xW (i:=4) nd rfl rfl) (xV (xW (i:=5) nd rfl rfl) (xV (xW (i:=6) nd rfl rfl) (xV (xW (i:=7) nd rfl rfl) xv))))) B1.ps) (xp (xh (pv 3)))))⟩
  refine ⟨_,(xP (xl (xn (i:=3) nd rfl rfl (xj Ld (wI (xO (xQ cG xY rfl))) (xg (xf rfl) (by rfl) T.aU PySem.boot_len (xO (xQ (xc (xi rfl) (pv 0) xR (λ_ _=>rfl)) xY rfl))))) (xl (wd (pv 2) (fB (pv 3) (pv 1) qI)) B2.bl))),?_⟩;have line:=bE;refine ⟨by show 1<=sizeLine;omega,λl0 LI=>?_⟩;have N5:=hb.same (xU (o:=HO.lst [V.bD]) LI);refine (zr rfl (bM N5.book rfl ⟨tr,zr rfl ⟨.inr (bq.of N5.aa),l0,aH rfl rfl ⟨xS,by omega,by rw [zA];omega,by rw [zA];show 1 * aa.length<=sizeLine;omega,λl hl=>?_⟩⟩⟩));have uT:=(xU (o:=HO.lst [V.bD]) LI).trans (xU (o:=HO.lst (List.replicate (((aa.map V.int).length:Int)).toNat [V.bD]).flatten) hl);have er:(List.replicate (((aa.map V.int).length:Int)).toNat [V.bD]).flatten=(rep aa.length (λ_=>none)).map oV:=by
   rw [zm,zA];unfold rep;rw [yF];generalize aa.length=n;induction n with
   | zero=>rfl
   | succ n ih=>rw [yR,yi,ih,List.range_succ_eq_map,zf,yF];rfl
  have Qw:H l=none:=(xU (o:=HO.lst [V.bD]) LI).free hl;refine (zr rfl (zr rfl (zr rfl ⟨l,_,_,k,rfl,rfl,xS,dw (by rw [er,zA,wg];exact hk),?_⟩)));have e1:((List.replicate (((aa.map V.int).length:Int)).toNat [V.bD]).flatten).set k (.int x)=(rep aa.length (aE k x)).map oV:=by
   rw [er];show _=(rep aa.length (put (λ_=>none) k (some x))).map oV;rw [<-fR hk,xN];rfl
  rw [e1];have vW:au H (upd (upd (upd H l0 (HO.lst [V.bD])) l (HO.lst (List.replicate (((aa.map V.int).length:Int)).toNat [V.bD]).flatten)) l (HO.lst ((rep aa.length (aE k x)).map oV))):=au.put Qw uT;have nM:=hb.same vW;refine (zr rfl (bM nM.book rfl ⟨tm,rfl,⟨_,bq.of nM.meets⟩,?_⟩));refine (let W15:IV:=λi σ H4=>(∃ v4 v5 v6 v7 v8 v9,σ=[some (.ref b),some (.int k),some (.int x),some (.ref l),v4,v5,v6,v7,v8,v9])/\au H H4/\H4 l=some (.lst ((rep aa.length (fwd ((ps.map (·.2)).take i) (aE k x))).map oV));ud (K:=K) (a:=tm) (xs:=ps.map λa=>V.ref a.1) W15)
   ?_ (λi σ H4 _ h4=>bq.of ((hb.same h4.2.1).meets)) ?_ ?_
  ·exact ⟨⟨_,_,_,_,_,_,rfl⟩,vW,xS⟩
  ·rintro i y σ H4 hy ⟨⟨v4,v5,v6,v7,v8,v9,rfl⟩,oB,h4⟩;obtain ⟨r,vC,rfl⟩:=xz hy;have hm:(ps.map (·.2))[i]?=some r.2:=by rw [zD,vC];rfl
   have rm:=zB vC;obtain ⟨a1,a2,a3,a4,a5,_⟩:=gd.at rm;have eV:=(hb.same oB).rows r rm;have z1:(r.2.lo.toNat:Int)=r.2.lo:=yS a1;have z2:(r.2.hi.toNat:Int)=r.2.hi:=yS (by omega);have gl:r.2.lo.toNat < aa.length:=by omega
   have ol:r.2.hi.toNat < aa.length:=by omega
   refine (Kq eV ?_);refine (zr rfl (zr rfl ⟨by show 2<=sizeLine;omega,λt1 kU=>(zr rfl (zr rfl ⟨by show 2<=sizeLine;omega,λt2 lE=>⟨by show 2<=sizeLine;omega,λll vE=>⟨ll,rfl,⟨_,aG.of xS⟩,?_⟩⟩⟩))⟩));have Rf:=((xU (o:=HO.tup [.int r.2.lo,.int r.2.hi]) kU).trans (xU (o:=HO.tup [.int r.2.hi,.int r.2.lo]) lE)).trans (xU (o:=HO.lst [.ref t1,.ref t2]) vE);have h5:=Rf _ _ h4;have q1:=(xU (o:=HO.lst [.ref t1,.ref t2]) vE) t1 _ ((xU (o:=HO.tup [.int r.2.hi,.int r.2.lo]) lE) t1 _ (xS (H:=H4) (a:=t1) (o:=HO.tup [.int r.2.lo,.int r.2.hi])));have q2:=(xU (o:=HO.lst [.ref t1,.ref t2]) vE) t2 _ (xS (a:=t2) (o:=HO.tup [.int r.2.hi,.int r.2.lo]));have PV:ll≠l:=(xT ((xU (o:=HO.tup [.int r.2.hi,.int r.2.lo]) lE) _ _ ((xU (o:=HO.tup [.int r.2.lo,.int r.2.hi]) kU) _ _ h4)) vE).symm;have Y0:t1≠l:=(xT h4 kU).symm;have YZ:t2≠l:=(xT ((xU (o:=HO.tup [.int r.2.lo,.int r.2.hi]) kU) _ _ h4) lE).symm;refine cF (K:=K) (a:=ll) (xs:=[V.ref t1,V.ref t2]) (λj σ H6=>(∃ v8 v9,σ=[some (.ref b),some (.int k),some (.int x),some (.ref l),some (.int r.2.lo),some (.int r.2.hi),some (.int r.2.t),some (.int r.2.m),v8,v9])/\au H H6 /\
     H6 l=some (.lst ((rep aa.length (((two r.2).take j).foldl aJ (fwd ((ps.map (·.2)).take i) (aE k x)))).map oV))/\H6 ll=some (.lst [.ref t1,.ref t2])/\H6 t1=some (.tup [.int r.2.lo,.int r.2.hi])/\H6 t2=some (.tup [.int r.2.hi,.int r.2.lo]))
    ⟨⟨_,_,rfl⟩,oB.trans Rf,h5,xS,q1,q2⟩ (λj σ H6 _ h6=>aG.of h6.2.2.2.1) ?_ ?_
   ·rintro j y σ H6 hy ⟨⟨v8,v9,rfl⟩,MM,h6,N6,MX,MW⟩;obtain rfl | rfl:j=0\/j=1:=by
     have:j < 2:=(zC.mp hy).1;omega
    ·cases hy;generalize ef:((two r.2).take 0).foldl aJ (fwd ((ps.map (·.2)).take i) (aE k x))=f at h6;have fo:((two r.2).take (0 + 1)).foldl aJ (fwd ((ps.map (·.2)).take i) (aE k x))=aJ f ⟨r.2.lo.toNat,r.2.hi.toNat,r.2.t⟩:=by
      rw [wM (r:=⟨r.2.lo.toNat,r.2.hi.toNat,r.2.t⟩) rfl,xA,ef];rfl
     have hg:dI ((rep aa.length f).map oV) r.2.lo=some (oV (f r.2.lo.toNat)):=by rw [<-z1];exact xq (we gl)
     have ho:dI ((rep aa.length f).map oV) r.2.hi=some (oV (f r.2.hi.toNat)):=by rw [<-z2];exact xq (we ol)
     refine (oO MX ?_);have no:∀ (c:¬ (f r.2.hi.toNat=none/\below (f r.2.lo.toNat) r.2.t=true)),H6 l=some (.lst ((rep aa.length (((two r.2).take (0 + 1)).foldl aJ (fwd ((ps.map (·.2)).take i) (aE k x)))).map oV)):=λc=>by
      rw [fo];unfold aJ;rw [if_neg c];exact h6
     refine (zr rfl (zr rfl (bw h6 hg (zr rfl ?_))));cases sy:f r.2.lo.toNat with
     | none=>
      exact az rfl (az rfl ⟨⟨_,_,rfl⟩,MM,no (λz=>by rw [sy] at z;cases z.2),N6,MX,MW⟩)
     | some a=>
      rw [sy] at hg;refine aT rfl (zr rfl (zr rfl (bw h6 hg (zr rfl (aH rfl rfl (zr rfl (cY (λc=>?_) (λc=>?_))))))))
      ·refine (zr rfl (zr rfl (bw h6 ho (zr rfl (cY (λc2=>?_) (λc2=>?_))))))
       ·refine (zr rfl (zr rfl (zr rfl ⟨l,_,_,r.2.hi.toNat,rfl,rfl,h6,by rw [<-z2];exact dw (by rw [zA,wg];exact ol),⟨_,_,rfl⟩,au.put Qw MM,?_,by rw [xX PV];exact N6,by rw [xX Y0];exact MX,by rw [xX YZ];exact MW⟩)));rw [xS,fo];unfold aJ;rw [if_pos ⟨gM.mp c2,aK.mpr ⟨a,sy,c⟩⟩,<- fR ol,xN];rfl
       ·exact ⟨⟨_,_,rfl⟩,MM,no (λz=>c2 (gM.mpr z.1)),N6,MX,MW⟩
      ·exact az rfl ⟨⟨_,_,rfl⟩,MM,no (λz=>by obtain ⟨w1,w2,w3⟩:=aK.mp z.2;rw [sy] at w2;cases w2;exact c w3),N6,MX,MW⟩
    ·cases hy;generalize ef:((two r.2).take 1).foldl aJ (fwd ((ps.map (·.2)).take i) (aE k x))=f at h6;have fo:((two r.2).take (1 + 1)).foldl aJ (fwd ((ps.map (·.2)).take i) (aE k x))=aJ f ⟨r.2.hi.toNat,r.2.lo.toNat,r.2.t⟩:=by
      rw [wM (r:=⟨r.2.hi.toNat,r.2.lo.toNat,r.2.t⟩) rfl,xA,ef];rfl
     have hg:dI ((rep aa.length f).map oV) r.2.hi=some (oV (f r.2.hi.toNat)):=by rw [<-z2];exact xq (we ol)
     have ho:dI ((rep aa.length f).map oV) r.2.lo=some (oV (f r.2.lo.toNat)):=by rw [<-z1];exact xq (we gl)
     refine (oO MW ?_);have no:∀ (c:¬ (f r.2.lo.toNat=none/\below (f r.2.hi.toNat) r.2.t=true)),H6 l=some (.lst ((rep aa.length (((two r.2).take (1 + 1)).foldl aJ (fwd ((ps.map (·.2)).take i) (aE k x)))).map oV)):=λc=>by
      rw [fo];unfold aJ;rw [if_neg c];exact h6
     refine (zr rfl (zr rfl (bw h6 hg (zr rfl ?_))));cases sy:f r.2.hi.toNat with
     | none=>
      exact az rfl (az rfl ⟨⟨_,_,rfl⟩,MM,no (λz=>by rw [sy] at z;cases z.2),N6,MX,MW⟩)
     | some a=>
      rw [sy] at hg;refine aT rfl (zr rfl (zr rfl (bw h6 hg (zr rfl (aH rfl rfl (zr rfl (cY (λc=>?_) (λc=>?_))))))))
      ·refine (zr rfl (zr rfl (bw h6 ho (zr rfl (cY (λc2=>?_) (λc2=>?_))))))
       ·refine (zr rfl (zr rfl (zr rfl ⟨l,_,_,r.2.lo.toNat,rfl,rfl,h6,by rw [<-z1];exact dw (by rw [zA,wg];exact gl),⟨_,_,rfl⟩,au.put Qw MM,?_,by rw [xX PV];exact N6,by rw [xX Y0];exact MX,by rw [xX YZ];exact MW⟩)));rw [xS,fo];unfold aJ;rw [if_pos ⟨gM.mp c2,aK.mpr ⟨a,sy,c⟩⟩,<- fR gl,xN];rfl
       ·exact ⟨⟨_,_,rfl⟩,MM,no (λz=>c2 (gM.mpr z.1)),N6,MX,MW⟩
      ·exact az rfl ⟨⟨_,_,rfl⟩,MM,no (λz=>by obtain ⟨w1,w2,w3⟩:=aK.mp z.2;rw [sy] at w2;cases w2;exact c w3),N6,MX,MW⟩
   ·rintro σ H6 ⟨⟨v8,v9,rfl⟩,MM,h6,N6,MX,MW⟩;refine ⟨⟨_,_,_,_,_,_,rfl⟩,MM,?_⟩;rw [h6,wM hm];unfold fwd aV;rw [List.flatMap_append,xA];rfl
  ·rintro σ H4 ⟨⟨v4,v5,v6,v7,v8,v9,rfl⟩,oB,h4⟩;refine (zr rfl (q l _ Qw oB ?_));have e:(ps.map λa=>V.ref a.1).length=(ps.map (·.2)).length:=by simp
   rw [e,zv] at h4;exact h4
theorem DK:aA ["_law_purse_here", "_law_book_here", "_law_most", "_law_left", "_law_found", "_law_k", "_law_walker"] ["_law_purse_here", "_law_book_here", "_law_most"] (aq wb):=L2.bf
theorem FL (T:Tx K mg a ak ai ah)(B:aS mg base):aO P w K mg base bZ 4 a.Ar a.Bf ["_law_purse_here", "_law_book_here", "_law_most"] (rC):=by
 have Aa:=wS P w base T B;have C3:=EH P w base T B;refine T.AM.ok DK (λvs H Q E h=>?_) (λbI A outer s H vs Q E hr h=>?_)
 ·obtain ⟨_,_,_,_,_,_,_,rfl,_⟩:=h;rfl
 ·have nd:=DK.nd;have hu:=hr.units;obtain ⟨p,b,m,aa,tr,tm,ps,rfl,m1,m4,pu,hb,gd,r1,u0,q⟩:=h;refine bT ?_;intro Y
  let B0:Bk Y ((nb (aj wb) 2).drop 1):=⟨_,(xP (xp (wf (di zU zZ za wL (pv 4) (xO (xQ (wB (xO (xQ (pv 6) (xQ (xZ C3 (hr.mono (by decide)) rfl T.DQ T.DR T.DS .nil av (xO (xQ (pv 0) (xQ (pv 1) (xQ xR xY rfl) rfl) rfl))) xY rfl) rfl))) xY rfl))))))⟩
  let B1:Bk Y (nb (aj wb) 2):=⟨_,(xP (xl (xn (i:=6) nd rfl rfl (di zU PySem.F.slot_list_pop PySem.F.type_list_pop Lo (pv 3) (xO (xQ (xZ Aa (hr.mono (by decide)) rfl T.Ab T.Ac T.Ae .nil av (xO (xQ (pv 0) (xQ (xg (xf rfl) (by rfl) T.aU PySem.boot_len (xO (xQ (pv 3) xY rfl))) xY rfl) rfl))) xY rfl)))) B0.bl))⟩
  let B2:Bk Y ((aj wb).drop 2):=⟨_,(xP (xl (wF PassesOwn.never rfl (wZ rfl T.bL (xO (xQ (xj xu xR (xZ Aa (hr.mono (by decide)) rfl T.Ab T.Ac T.Ae .nil av (xO (xQ (pv 0) (xQ (xg (i8 rfl) (by rfl) T.qk ye (xO (xQ (pv 2) (xQ (xg (xf rfl) (by rfl) T.aU PySem.boot_len (xO (xQ (pv 3) xY rfl))) xY rfl) rfl))) xY rfl) rfl)))) xY rfl))) (xW (i:=5) nd rfl rfl) B1.ps) (xp (xh (pv 4)))))⟩
  refine ⟨_,(xP (xl (xn (i:=3) nd rfl rfl (nu rfl rfl T.fJ rfl T.bL (xO (xQ (xg (xf rfl) (by rfl) T.aU PySem.boot_len (xO (xQ (xc (xi rfl) (pv 1) xR (λ_ _=>rfl)) xY rfl))) xY rfl)))) (xl (xn (i:=4) nd rfl rfl (wI cg)) B2.bl))),?_⟩;have line:=bE;have Mb:(2:Int) ^ 200 > 10000:=by decide
  refine (zr rfl (bM hb.book rfl ⟨tr,zr rfl ⟨.inr (bq.of hb.aa),aa.length,by rw [zA],by omega,λll vE=>⟨zc _,λlf LH=>?_⟩⟩⟩));have s1:=(xU (o:=HO.lst (List.map (λk:Nat=>V.int (k:Int)) (List.range aa.length))) vE).trans (xU (o:=HO.lst []) LH);have fl:H lf=none:=(xU vE).free LH;have PV:ll≠p:=pu.ne vE;have R8:lf≠p:=pu.ne fl;have WC:lf≠ll:=λz=>by rw [z,xS] at LH;cases LH
  have h1:upd (upd H ll (HO.lst (List.map (λk:Nat=>V.int (k:Int)) (List.range aa.length)))) lf (HO.lst []) ll=some (.lst (List.map (λk:Nat=>V.int (k:Int)) (List.range aa.length))):=by rw [xX WC.symm,xS]
  have h1f:upd (upd H ll (HO.lst (List.map (λk:Nat=>V.int (k:Int)) (List.range aa.length)))) lf (HO.lst []) lf=some (.lst []):=xS;have g1:Go p H (upd (upd H ll (HO.lst (List.map (λk:Nat=>V.int (k:Int)) (List.range aa.length)))) lf (HO.lst [])):=(Go.refl pu).same s1;generalize upd (upd H ll (HO.lst (List.map (λk:Nat=>V.int (k:Int)) (List.range aa.length)))) lf (HO.lst [])=H1 at *;refine (zr rfl (zr rfl (zr rfl ⟨ll,zr rfl ⟨.inl (aG.of h1),kT rfl ⟨p,zr rfl ⟨?_,?_,g1.2,λd H2 d0 d1 g2=>?_⟩⟩⟩⟩)))
  ·rw [zA,yJ];split <;> omega
  ·rw [zA,yJ];split <;> omega
  rw [zA,yJ] at d1;obtain ⟨d,rfl⟩:=zk d0;have dn:d < aa.length/\(d:Int) < m:=by split at d1 <;> omega
  refine (aH rfl rfl (zr rfl ⟨by omega,by omega,?_⟩));refine (let W16:IV:=λi σ H5=>∃ (ks:List Nat) (ws:List (Addr×Nat×Int)),(∃ v5 v6,σ=[some (.ref p),some (.ref b),some (.int m),some (.ref ll),some (.ref lf),v5,v6])/\Go p H H5/\H5 ll=some (.lst (ks.map λk:Nat=>V.int (k:Int)))/\ks.length + i=aa.length/\(∀ x∈ks,x < aa.length)/\c6 H5 lf aa.length ws/\oz ws/\ws.length=i;qD (lo:=0) W16 ?_ ?_ ?_)
  ·exact ⟨List.range aa.length,[],⟨_,_,rfl⟩,g1.trans g2,g2.1 _ _ PV h1,by simp,λx hx=>zn.mp hx,⟨g2.1 _ _ R8 h1f,λ_ z=>nomatch z⟩,(λ_ z=>nomatch z),rfl⟩
  ·rintro i σ H5 hi ⟨ks,ws,⟨v5,v6,rfl⟩,g5,h5,lk,kn,hw,lo,lw⟩;have e8:i < d + 1:=by omega
   have k0:0 < ks.length:=by omega
   refine (zr rfl ⟨.inl ⟨rfl,_,aG.of h5⟩,zr rfl (zr rfl ⟨ll,zr rfl ⟨.inl (aG.of h5),p,zr rfl ⟨by rw [zA];omega,by rw [zA];omega,g5.2,λe H6 e0 e1 g6=>?_⟩⟩⟩)⟩);rw [zA] at e1;obtain ⟨e,rfl⟩:=zk e0;have he:e < ks.length:=by omega
   have h6:=g6.1 _ _ PV h5;have ZW:=g5.trans g6;have WZ:c6 H6 lf aa.length ws:=⟨g6.1 _ _ R8 hw.1,λx hx=>⟨g6.aQ g5.2 _ _ (hw.2 x hx).1,(hw.2 x hx).2⟩⟩;refine ⟨ll,_,(e:Int),e,V.int (ks[e]:Int),rfl,rfl,h6,by omega,by omega,(nI (dw (by rw [zA];exact he))).1,by simp [he],?_⟩;have wk:ks[e] < aa.length:=kn _ (z6 he);have g7:Go p H (upd H6 ll (HO.lst ((ks.map λk:Nat=>V.int (k:Int)).eraseIdx e))):=⟨λx u n c=>by rw [xX (xT c vE)];exact ZW.1 x u n c,by obtain ⟨x1,x2,x3,c⟩:=ZW.2;exact ⟨x1,x2,x3,by rw [xX PV.symm];exact c⟩⟩;have h7:upd H6 ll (HO.lst ((ks.map λk:Nat=>V.int (k:Int)).eraseIdx e)) ll=some (.lst ((ks.eraseIdx e).map λk:Nat=>V.int (k:Int))):=by rw [xS,List.eraseIdx_eq_take_drop_succ,List.eraseIdx_eq_take_drop_succ,zG,List.map_take,List.map_drop]
   have t7:=bC.set (o:=HO.lst ((ks.map λk:Nat=>V.int (k:Int)).eraseIdx e)) h6;have Uz:c6 (upd H6 ll (HO.lst ((ks.map λk:Nat=>V.int (k:Int)).eraseIdx e))) lf aa.length ws:=⟨by rw [xX WC];exact WZ.1,λx hx=>⟨t7 _ _ (WZ.2 x hx).1,(WZ.2 x hx).2⟩⟩;generalize upd H6 ll (HO.lst ((ks.map λk:Nat=>V.int (k:Int)).eraseIdx e))=H7 at *;have hb7:=hb.aQ (g7.aQ pu);refine (zr rfl ⟨.inl ⟨rfl,_,aG.of Uz.1⟩,zr rfl (zr rfl (zr rfl (vI p b 1 aa tr tm ps ⟨rfl,.inr rfl,hb7,gd,g7.2,λz H9 z0 z1 g9=>?_⟩)))⟩);have hf9:=g9.1 _ _ R8 Uz.1;have h9:=g9.1 _ _ PV h7;refine ⟨by show 2<=sizeLine;omega,λt ht=>?_⟩;have jx:=xU (o:=HO.tup [V.int (ks[e]:Int),V.int z]) ht;have SW:=jx _ _ hf9;refine ⟨lf,_,_,rfl,rfl,SW,by rw [zA];omega,ks.eraseIdx e,ws++[(t,ks[e],z)],⟨_,_,rfl⟩,?_,?_,?_,λx hx=>kn x ((List.eraseIdx_sublist ks e).subset hx),⟨by rw [xS,zG];rfl,λx hx=>?_⟩,(λx hx=>by
    rcases zT.mp hx with h | h
    ·exact lo x h
    ·cases zP.mp h;exact ⟨z0,z1⟩),by rw [zN,lw];rfl⟩
   ·have oG:=(g7.trans g9).same jx;exact ⟨λx u n c=>by rw [xX (xT c fl)];exact oG.1 x u n c,by obtain ⟨x1,x2,x3,c⟩:=oG.2;exact ⟨x1,x2,x3,by rw [xX R8.symm];exact c⟩⟩
   ·rw [xX WC.symm];exact jx _ _ h9
   ·rw [List.length_eraseIdx_of_lt he];omega
   ·have tt:=bC.set (o:=HO.lst ((ws.map λx=>V.ref x.1)++[V.ref t])) SW;rcases zT.mp hx with h | h
    ·exact ⟨tt _ _ (jx _ _ (g9.aQ g7.2 _ _ (Uz.2 x h).1)),(Uz.2 x h).2⟩
    ·cases zP.mp h;exact ⟨tt _ _ xS,wk⟩
  ·rintro σ H5 ⟨ks,ws,⟨v5,v6,rfl⟩,g5,h5,lk,kn,hw,lo,lw⟩;exact (zr rfl (q lf ws H5 g5 fl R8 hw lo (by omega) (by omega)))
theorem CQ:aA ["_law_book_here", "_law_sender", "_law_since", "_law_steps", "_law_times_here", "_law_ahead", "_law_step_here", "_law_one", "_law_other", "_law_when", "_law_passed"] ["_law_book_here", "_law_sender", "_law_since", "_law_steps"] (aq xx):=L2.bf
theorem El (T:Tx K mg a ak ai ah)(B:aS mg base):aO P w K mg base bZ 2 a.Af a.Ao ["_law_book_here", "_law_sender", "_law_since", "_law_steps"] (kZ):=by
 have AK:=Cs P w base T B;refine T.Ah.ok CQ (λvs H Q E h=>?_) (λbI A outer s H vs Q E hr h=>?_)
 ·obtain ⟨_,_,_,_,_,_,_,_,_,_,rfl,_⟩:=h;rfl
 ·have nd:=CQ.nd;have hu:=hr.units;obtain ⟨b,k,a0,lt,aa,tr,tm,ps,Tl,h0,rfl,hb,gd,u0,hk,klt,gv,V6,q⟩:=h;refine bT ?_;intro Y
  let B0:Bk Y ((nb (aj xx) 4).drop 4):=⟨_,(xP (xl (xt (b9 (cH (xc (xb rfl) (pv 4) (xj cI (xj xu (pv 7) (pv 8)) (xc (xi rfl) (pv 6) xR (λ_ _=>rfl))) (λ_ _=>rfl)))) (xP (xp (wd (pv 9) (fB (pv 4) (xj cI (xj xu (pv 7) (pv 8)) (xc (xi rfl) (pv 6) xR (λ_ _=>rfl))) qI)))) xk) (xp (xn (i:=5) nd rfl rfl (xc (xi rfl) (pv 6) xR (λ_ _=>rfl))))))⟩
  let B1:Bk Y ((nb (aj xx) 4).drop 3):=⟨_,(xP (xl (xt (@PW.pt _ _ _ (wl (xo nC (xc (xi rfl) (pv 6) xR (λ_ _=>rfl)) (wB (xO (xQ (pv 7) (xQ (pv 8) xY rfl) rfl))) rfl) (wl (b9 (cH (xc (xb rfl) (pv 4) (xc (xi rfl) (pv 6) xR (λ_ _=>rfl)) (λ_ _=>rfl)))) (wc (xo Lf (xc (xb rfl) (pv 4) (xc (xi rfl) (pv 6) xR (λ_ _=>rfl)) (λ_ _=>rfl)) (pv 9) (aB _)))))) (xP (xp (xh cG))) xk) B0.bl))⟩
  let B2:Bk Y ((nb (aj xx) 4).drop 2):=⟨_,(xP (xl (wd (xc (xi rfl) (xc (xi rfl) (pv 0) xR (λ_ _=>rfl)) (xc (xi rfl) (pv 6) xR (λ_ _=>rfl)) (λ_ _=>rfl)) (xw (n:=4) rfl rfl (xV (xW (i:=7) nd rfl rfl) (xV (xW (i:=8) nd rfl rfl) (xV (xW (i:=9) nd rfl rfl) (xV (xW (i:=10) nd rfl rfl) xv)))))) B1.bl))⟩
  let B3:Bk Y ((nb (aj xx) 4).drop 1):=⟨_,(xP (xl (xt (wJ (K3 jj jj (pv 5) (xc (xi rfl) (pv 6) xR (λ_ _=>rfl)) (xg (xf rfl) (by rfl) T.aU PySem.boot_len (xO (xQ (xc (xi rfl) (pv 0) xR (λ_ _=>rfl)) xY rfl))))) (xP (xp (xh cG))) xk) B2.bl))⟩
  let B4:Bk Y (nb (aj xx) 4):=⟨_,(xP (xl (xt (@PW.pt _ _ _ (wl (wJ (wE (xg (xy) (by rfl) T.aI zR (xO (xQ (pv 6) (xQ (wY (v:=V.ty "tuple") rfl T.d9 yB rfl) xY rfl) rfl))))) (wl (xo eS (xg (xf rfl) (by rfl) T.aU PySem.boot_len (xO (xQ (pv 6) xY rfl))) xR (aB _)) (wl (wJ (wE (xZ AK (hr.mono (by decide)) rfl T.Cb T.Cc T.Cd .nil av (xO (xQ (xc (xi rfl) (pv 6) xR (λ_ _=>rfl)) xY rfl))))) (wc (wJ (wE (xZ AK (hr.mono (by decide)) rfl T.Cb T.Cc T.Cd .nil av (xO (xQ (xc (xi rfl) (pv 6) xR (λ_ _=>rfl)) xY rfl)))))))))) (xP (xp (xh cG))) xk) B3.bl))⟩
  let B5:Bk Y ((aj xx).drop 2):=⟨_,(xP (xl (wd (pv 2) (fB (pv 4) (pv 1) qI)) (xl (xn (i:=5) nd rfl rfl (jX gE xR)) (xl (wF PassesOwn.never rfl (wP rfl (pv 3)) (xW (i:=6) nd rfl rfl) B4.ps) (xp (xh (pv 4)))))))⟩
  let B6:Bk Y ((aj xx).drop 1):=⟨_,(xP (xl (xn (i:=4) nd rfl rfl (xj Ld (wI (xO (xQ cG xY rfl))) (xg (xf rfl) (by rfl) T.aU PySem.boot_len (xO (xQ (xc (xi rfl) (pv 0) xR (λ_ _=>rfl)) xY rfl))))) B5.bl))⟩
  refine ⟨_,(xP (xl (xt (wJ (wE (xg (xy) (by rfl) T.aI zR (xO (xQ (pv 3) (xQ (wY (v:=V.ty "list") rfl T.fJ yH rfl) xY rfl) rfl))))) (xP (xp (xh cG))) xk) B6.bl)),?_⟩;have line:=bE;have Ow:=gd.len;refine (zr rfl ⟨_, "list", "list", rfl,fQ klt,.inr (.inr (.inl rfl)),zr rfl (az rfl ?_)⟩);refine ⟨by show 1<=sizeLine;omega,λl0 LI=>?_⟩;have N5:=hb.same (xU (o:=HO.lst [V.bD]) LI);refine (zr rfl (bM N5.book rfl ⟨tr,zr rfl ⟨.inr (bq.of N5.aa),l0,aH rfl rfl ⟨xS,by omega,by rw [zA];omega,by rw [zA];show 1 * aa.length<=sizeLine;omega,λl hl=>?_⟩⟩⟩));have uT:=(xU (o:=HO.lst [V.bD]) LI).trans (xU (o:=HO.lst (List.replicate (((aa.map V.int).length:Int)).toNat [V.bD]).flatten) hl);have er:(List.replicate (((aa.map V.int).length:Int)).toNat [V.bD]).flatten=(rep aa.length (λ_=>none)).map oV:=by
   rw [zm,zA];unfold rep;rw [yF];generalize aa.length=n;induction n with
   | zero=>rfl
   | succ n ih=>rw [yR,yi,ih,List.range_succ_eq_map,zf,yF];rfl
  have Qw:H l=none:=(xU (o:=HO.lst [V.bD]) LI).free hl;refine (zr rfl (zr rfl (zr rfl ⟨l,_,_,k,rfl,rfl,xS,dw (by rw [er,zA,wg];exact hk),?_⟩)));have e1:((List.replicate (((aa.map V.int).length:Int)).toNat [V.bD]).flatten).set k (.int a0)=(rep aa.length (aE k a0)).map oV:=by
   rw [er];show _=(rep aa.length (put (λ_=>none) k (some a0))).map oV;rw [<-fR hk,xN];rfl
  rw [e1];have vW:au H (upd (upd (upd H l0 (HO.lst [V.bD])) l (HO.lst (List.replicate (((aa.map V.int).length:Int)).toNat [V.bD]).flatten)) l (HO.lst ((rep aa.length (aE k a0)).map oV))):=au.put Qw uT;have k2:upd (upd (upd H l0 (HO.lst [V.bD])) l (HO.lst (List.replicate (((aa.map V.int).length:Int)).toNat [V.bD]).flatten)) l (HO.lst ((rep aa.length (aE k a0)).map oV)) l=some (.lst ((rep aa.length (aE k a0)).map oV)):=xS;generalize upd (upd (upd H l0 (HO.lst [V.bD])) l (HO.lst (List.replicate (((aa.map V.int).length:Int)).toNat [V.bD]).flatten)) l (HO.lst ((rep aa.length (aE k a0)).map oV))=H2 at vW k2 ⊢;refine (zr rfl (zr rfl ⟨lt,rfl,⟨_,aG.of (vW _ _ klt)⟩,?_⟩));refine (let W17:IV:=λi σ H5=>∃ f,∃ j:Nat,∃ z:Int,z + 1=(j:Int)/\(∃ v6 v7 v8 v9 v10,σ=[some (.ref b),some (.int (k:Int)),some (.int a0),some (.ref lt),some (.ref l),some (.int z),v6,v7,v8,v9,v10])/\au H H5/\H5 l=some (.lst ((rep aa.length f).map oV))/\lK (ps.map (·.2)) j f ((Tl.map (·.2)).drop i) h0;cF (K:=K) (a:=lt) (xs:=Tl.map λx=>V.ref x.1) W17 ⟨aE k a0,0,-1,rfl,⟨_,_,_,_,_,rfl⟩,vW,k2,V6⟩ ?_ ?_ ?_)
  ·rintro i σ H5 _ ⟨_,_,_,_,_,s5,_,_⟩;exact aG.of (s5 _ _ klt)
  ·rintro i v σ H5 hv ⟨f,j,z,ez,⟨v6,v7,v8,v9,v10,rfl⟩,s5,k5,t5⟩;obtain ⟨x,hx,rfl⟩:=xz hv;obtain ⟨xa,m,g⟩:=x;have kx:H5 xa=some (.tup [V.int (m:Int),V.int (g:Int)]):=s5 _ _ (gv _ (zB hx));have Zf:(Tl.map (·.2))[i]?=some (m,g):=by rw [zD,hx];rfl
   rw [List.drop_eq_getElem_cons (zC.mp Zf).1,(zC.mp Zf).2] at t5;cases t5 with
   | @cons _ _ _ o t x0 _ _ _ hj lk hg ltt rr=>
   obtain ⟨gW,oW,_⟩:=lk.inside gd;obtain ⟨mm,Qo,Z1,UT⟩:=id lk;have fx:=gd.each mm (zB Qo);have mW:m < ps.length:=by have:=(zC.mp Qo).1;rwa [zA] at this
   obtain ⟨xm,NV,exm⟩:∃ x,ps[m]?=some x/\x.2=mm:=by
    rw [zD,zF mW] at Qo;exact ⟨ps[m],zF mW,Option.some.inj Qo⟩
   have OI:=hb.same s5;have Y6:=OI.rows xm (zB NV);rw [exm] at Y6;have Z4:∀ {f:Fn}{y:Int},f g=some y->dI ((rep aa.length f).map oV) (g:Int)=some (V.int y):=λh=>by rw [xq (we gW),h];rfl
   have eo:mm.lo + mm.hi - (g:Int)=(o:Int):=by rcases UT with ⟨c1,c2⟩ | ⟨c1,c2⟩ <;> omega
   have ato:dI ((rep aa.length f).map oV) (mm.lo + mm.hi - (g:Int))=some (oV (f o)):=by rw [eo];exact xq (we oW)
   have Zr:NT (V.int (g:Int)) [V.int mm.lo,V.int mm.hi]=true:=by
    rw [pV,yh,decide_eq_true_eq,decide_eq_true_eq];rcases UT with ⟨c1,c2⟩ | ⟨c1,c2⟩ <;> omega
   refine (zr rfl ⟨_, "tuple", "tuple", rfl,fO kx,.inr (.inr (.inr rfl)),zr rfl (az rfl (zr rfl ⟨xa,zr rfl ⟨.inr (bq.of kx),rfl,zr rfl (az rfl (zr rfl (bM kx rfl ⟨_, "int", rfl,rfl,zr rfl (az rfl (zr rfl (bM kx rfl ⟨_, "int", rfl,rfl,zr rfl (az rfl ?_)⟩)))⟩)))⟩⟩))⟩);refine (zr rfl (zr rfl (bM kx rfl (aH rfl rfl (zr rfl (aT (decide_eq_true (by omega)) (zr rfl (bM OI.book rfl ⟨tm,zr rfl ⟨.inr (bq.of OI.meets),aH rfl rfl (zr rfl (az (by rw [decide_eq_true (by rw [zA];omega)];rfl) ?_))⟩⟩))))))));refine (zr rfl (bM OI.book rfl (zr rfl (bM kx rfl (bM OI.meets (xq (by rw [zD,NV];rfl)) (Kq Y6 ?_))))));refine (zr rfl (bM kx rfl (zr rfl (zr rfl ⟨by show 2<=sizeLine;omega,λt1 kU=>?_⟩))));have s6:=s5.trans (xU (o:=HO.tup [V.int mm.lo,V.int mm.hi]) kU);have k6:upd H5 t1 (HO.tup [V.int mm.lo,V.int mm.hi]) t1=some (.tup [V.int mm.lo,V.int mm.hi]):=xS;have Oz:=xU (o:=HO.tup [V.int mm.lo,V.int mm.hi]) kU _ _ kx;have P6:=xU (o:=HO.tup [V.int mm.lo,V.int mm.hi]) kU _ _ k5;generalize upd H5 t1 (HO.tup [V.int mm.lo,V.int mm.hi])=H6 at s6 k6 Oz P6 ⊢;refine ⟨t1,zr rfl ⟨.inr (bq.of k6),rfl,rfl,zr rfl (az (by rw [if_pos rfl,Zr];rfl) ?_)⟩⟩;refine (zr rfl (zr rfl (bM Oz rfl (bw P6 (Z4 hg) (zr rfl (az rfl ?_))))));refine (zr rfl (zr rfl (bM Oz rfl (bw P6 (Z4 hg) (zr rfl (aH rfl rfl (zr rfl (az (decide_eq_false (by omega)) ?_))))))));refine (zr rfl (zr rfl (zr rfl (aH rfl rfl (zr rfl (bM Oz rfl (aH rfl rfl (bw P6 ato (zr rfl ?_)))))))));refine lD (fun σ H7=>(∃ v7 v8 v9 v10,σ=[some (.ref b),some (.int (k:Int)),some (.int a0),some (.ref lt),some (.ref l),some (.int z),some (.ref xa),v7,v8,v9,v10])/\au H H7/\H7 xa=some (.tup [V.int (m:Int),V.int (g:Int)])/\H7 l=some (.lst ((rep aa.length (if f o=none then put f o (some t) else f)).map oV))) ?_ (λc kk=>?_) (λc=>⟨⟨_,_,_,_,rfl⟩,s6,Oz,?_⟩)
   ·rintro σ H7 ⟨⟨v7,v8,v9,v10,rfl⟩,s7,kx7,kl7⟩;exact (zr rfl (bM kx7 rfl ⟨_,m + 1,(m:Int),rfl,⟨_,_,_,_,_,rfl⟩,s7,kl7,rr⟩))
   ·have fo:f o=none:=by
     cases e:f o with
     | none=>rfl
     | some y=>rw [e] at c;cases c
    refine (zr rfl (zr rfl (zr rfl (zr rfl (aH rfl rfl (zr rfl (bM Oz rfl (aH rfl rfl ⟨l,_,_,o,rfl,rfl,P6,by rw [eo];exact dw (by rw [zA,wg];exact oW),kk _ _ ⟨⟨_,_,_,_,rfl⟩,au.put Qw s6,by rw [xX (bY Oz P6 (by intro z;cases z))];exact Oz,?_⟩⟩))))))));rw [xS,if_pos fo,<- fR oW,xN,Z1];rfl
   ·rw [if_neg (λe=>by rw [e] at c;cases c)];exact P6
  ·rintro σ H5 ⟨f,j,z,ez,⟨v6,v7,v8,v9,v10,rfl⟩,s5,k5,t5⟩;rw [zA,show (Tl.map (·.2)).drop Tl.length=[] from List.drop_of_length_le (by rw [zA];exact zE _)] at t5;cases t5;exact (zr rfl (q l H5 s5 k5))
theorem DL:aA ["_law_times_here", "_law_wishes_here"] ["_law_times_here", "_law_wishes_here"] (aq qB):=L2.bf
theorem FM (T:Tx K mg a ak ai ah)(B:aS mg base):aO P w K mg base bZ 1 a.As a.Bg ["_law_times_here", "_law_wishes_here"] (rE):=by
 refine T.AN.ok DL (λvs H Q E h=>?_) (λbI A outer s H vs Q E hr h=>?_)
 ·obtain ⟨_,_,_,_,_,rfl,_⟩:=h;rfl
 ·have nd:=DL.nd;have hu:=hr.units;obtain ⟨l,lw,n,h0,ws,rfl,kl,wa,w4,sv,q⟩:=h;refine bT ?_;intro Y
  let B0:Bk Y ((aj qB).drop 1):=⟨_,(xP (xp (xh (xg (kH rfl rfl) (by rfl) T.Mv PyProof.Rows.boot_all (xO (xQ (wu (own:=["_law_walker", "_law_last"]) (caps:=[0]) rfl (show aM ["_law_walker", "_law_last"] [0] ["_law_times_here", "_law_wishes_here"] (aq qB) _ from L2.i6) (wP rfl (pv 1)) (λ_ _ _ _=>(xw (n:=2) rfl rfl (xV (xW (i:=0) (show List.Nodup (["_law_walker", "_law_last", "_law_times_here"]:List Str) from by decide +kernel) rfl rfl) (xV (xW (i:=1) (show List.Nodup (["_law_walker", "_law_last", "_law_times_here"]:List Str) from by decide +kernel) rfl rfl) xv)))) (λ_ _ _ _=>cA) (λ_ _ _ _=>(dF (jZ (fU (xc (xb rfl) (pv 2) (pv 0) (λ_ _=>rfl)))) (dD (dW j4 (xc (xb rfl) (pv 2) (pv 0) (λ_ _=>rfl)) (pv 1) (aB _)))))) xY rfl))))))⟩
  refine ⟨_,(xP (xl (xt (b9 (cH (pv 0))) (xP (xp (xh wV))) xk) B0.bl)),?_⟩;have line:=bE;refine (zr rfl (zr rfl (az rfl ?_)));refine (zr rfl ⟨lw,rfl,⟨_,aG.of wa.1⟩,?_⟩);refine (let W18:IC:=λi τ acc H5=>(∃ t0 t1,τ=[t0,t1,some (.ref l)])/\acc=List.map V.bl (List.replicate i true)/\H5=H;cT (K:=K) (a:=lw) (xs:=ws.map λa=>V.ref a.1) W18 ⟨⟨_,_,rfl⟩,rfl,rfl⟩ (by rw [zA];omega) ?_ ?_ ?_)
  ·rintro i τ acc H5 ⟨_,rfl,rfl⟩;exact ⟨by rw [zA,yd];exact zE _,aG.of wa.1⟩
  ·rintro i v τ acc H5 C hv ⟨⟨t0,t1,rfl⟩,rfl,rfl⟩ hC;obtain ⟨x,hx,rfl⟩:=xz hv;obtain ⟨kx,lx⟩:=wa.2 x (zB hx);obtain ⟨y,hy,le⟩:=bJ.mp (sv i x.2 (by unfold wq;rw [zD,hx];rfl));have ha:dI ((rep n h0).map oV) (x.2.1:Int)=some (V.int y):=by rw [xq (we lx),hy];rfl
   refine (oO kx ?_);refine (zr rfl (zr rfl (bw kl ha (zr rfl (aT rfl (zr rfl (zr rfl (bw kl ha (zr rfl (aH rfl rfl (hC _ _ _ ⟨⟨_,_,rfl⟩,?_,rfl⟩)))))))))));show List.map V.bl (List.replicate i true)++[V.bl (decide (y<=x.2.2))]=_;rw [decide_eq_true le,List.replicate_succ',zG];rfl
  ·rintro τ acc H5 ⟨_,rfl,rfl⟩ lc kW;refine ⟨lc,zr rfl ⟨aG.of xS,?_⟩⟩;rw [show (List.replicate (ws.map λa=>V.ref a.1).length true).all id=true by simp];exact q _ (xU kW)
theorem DM:aA ["_law_book_here", "_law_wishes_here", "_law_prices", "_law_row", "_law_some"] ["_law_book_here", "_law_wishes_here", "_law_prices"] (aq wT):=L2.bf
theorem FN (T:Tx K mg a ak ai ah)(B:aS mg base):aO P w K mg base bZ 2 a.At a.Bh ["_law_book_here", "_law_wishes_here", "_law_prices"] (rG):=by
 have AK:=Cs P w base T B;refine T.AO.ok DM (λvs H Q E h=>?_) (λbI A outer s H vs Q E hr h=>?_)
 ·obtain ⟨_,_,_,_,_,_,_,_,_,rfl,_⟩:=h;rfl
 ·have nd:=DM.nd;have hu:=hr.units;obtain ⟨b,l,lp,aa,tr,tm,ps,ws,P,rfl,cx,q⟩:=h;refine bT ?_;intro Y
  let B0:Bk Y ((nb (nb (aj wT) 1) 1).drop 1):=⟨_,(xP (xp (xt (@PW.pt _ _ _ (wl (wJ (wE (xg (kH rfl rfl) (by rfl) T.Mv PyProof.Rows.boot_all (xO (xQ (wu (own:=["_law_one"]) (caps:=[]) rfl (show aM ["_law_one"] [] ["_law_book_here", "_law_wishes_here", "_law_prices", "_law_row", "_law_some"] (aq wT) _ from L2.i6) (wP rfl (pv 4)) (λ_ _ _ _=>(xW (i:=0) (show List.Nodup (["_law_one"]:List Str) from by decide +kernel) rfl rfl)) (λ_ _ _ _=>cA) (λ_ _ _ _=>(dF (xZ AK (hr.mono (by decide)) rfl T.Cb T.Cc T.Cd .nil av (xO (xQ (pv 0) xY rfl))) (dD (dW Lf (pv 0) xR (aB _)))))) xY rfl))))) (wc (xo eS (xc (xb rfl) (pv 4) xR (λ_ _=>rfl)) xR (aB _))))) (xP (xp (xh wV))) xk)))⟩
  let B1:Bk Y (nb (nb (aj wT) 1) 1):=⟨_,(xP (xl (xt (@PW.pt _ _ _ (wl (wJ (wE (xg (xy) (by rfl) T.aI zR (xO (xQ (pv 4) (xQ (wY (v:=V.ty "list") rfl T.fJ yH rfl) xY rfl) rfl))))) (wc (xo eS (xg (xf rfl) (by rfl) T.aU PySem.boot_len (xO (xQ (pv 4) xY rfl))) (xj j3 xR (xg (xf rfl) (by rfl) T.aU PySem.boot_len (xO (xQ (pv 1) xY rfl)))) (aB _))))) (xP (xp (xh wV))) xk) B0.bl))⟩
  let B2:Bk Y (nb (aj wT) 1):=⟨_,(xP (xl (xt (@PW.pt _ _ _ (wl (wJ (wE (xg (xy) (by rfl) T.aI zR (xO (xQ (pv 3) (xQ (wY (v:=V.ty "list") rfl T.fJ yH rfl) xY rfl) rfl))))) (wc (xo eS (xg (xf rfl) (by rfl) T.aU PySem.boot_len (xO (xQ (pv 3) xY rfl))) (xg (xf rfl) (by rfl) T.aU PySem.boot_len (xO (xQ (xc (xi rfl) (pv 0) xR (λ_ _=>rfl)) xY rfl))) (aB _))))) (xP (xp (xh wV))) xk) (xp (wF PassesOwn.never rfl (wP rfl (pv 3)) (xW (i:=4) nd rfl rfl) B1.ps))))⟩
  refine ⟨_,(xP (xl (xt (@PW.pt _ _ _ (wl (wJ (wE (xg (xy) (by rfl) T.aI zR (xO (xQ (pv 2) (xQ (wY (v:=V.ty "list") rfl T.fJ yH rfl) xY rfl) rfl))))) (wc (xo eS (xg (xf rfl) (by rfl) T.aU PySem.boot_len (xO (xQ (pv 2) xY rfl))) (xj xu (xg (xf rfl) (by rfl) T.aU PySem.boot_len (xO (xQ (xc (xi rfl) (pv 0) xR (λ_ _=>rfl)) xY rfl))) xR) (aB _))))) (xP (xp (xh wV))) xk) (xl (wF PassesOwn.never rfl (wP rfl (pv 2)) (xW (i:=3) nd rfl rfl) B2.ps) (xp (xh wV))))),?_⟩;have line:=bE;have w4:=cx.w4;have Ov:=l5 w4;have p1:=yM ws.length;have Ow:ps.length<=60:=cx.gd.len;have hp:=cx.pr;have hb:=cx.bk;refine (zr rfl ⟨_, "list", "list", rfl,fQ hp.top,.inr (.inr (.inl rfl)),zr rfl (az rfl (zr rfl ⟨lp,zr rfl ⟨.inl (aG.of hp.top),zr rfl (bM hb.book rfl ⟨tm,zr rfl ⟨.inr (bq.of hb.meets),aH rfl rfl ⟨rfl,zr rfl (az (by simp [hp.len]) ?_)⟩⟩⟩)⟩⟩))⟩);refine (zr rfl ⟨lp,rfl,⟨_,aG.of hp.top⟩,?_⟩);refine (let W19:IV:=λi σ H5=>(∃ v3 v4,σ=[some (.ref b),some (.ref l),some (.ref lp),v3,v4])/\(∀ a∈P.take i,∀ r∈a.2,r.2.getD 0 0=0)/\au H H5;cF (K:=K) (a:=lp) (xs:=P.map λa=>V.ref a.1) W19 ⟨⟨_,_,rfl⟩,(λa z=>nomatch z),au.refl _⟩ ?_ ?_ ?_)
  ·rintro i σ H5 _ ⟨_,_,s5⟩;exact aG.of (s5 _ _ hp.top)
  ·rintro i v σ H5 hv ⟨⟨v3,v4,rfl⟩,old,s5⟩;obtain ⟨a1,ha,rfl⟩:=xz hv;have m1:=zB ha;have Zh:=hp.same s5;have ks:=Zh.str a1 m1;refine (zr rfl ⟨_, "list", "list", rfl,fQ ks,.inr (.inr (.inl rfl)),zr rfl (az rfl (zr rfl ⟨a1.1,zr rfl ⟨.inl (aG.of ks),zr rfl (bM ((hb.same s5).book) rfl ⟨tr,zr rfl ⟨.inr (bq.of (hb.same s5).aa),rfl,zr rfl (az (by simp [hp.tw a1 m1]) ?_)⟩⟩)⟩⟩))⟩);refine (zr rfl ⟨a1.1,rfl,⟨_,aG.of ks⟩,?_⟩);refine (let W20:IV:=λj σ H6=>(∃ v4,σ=[some (.ref b),some (.ref l),some (.ref lp),some (.ref a1.1),v4])/\(∀ r∈a1.2.take j,r.2.getD 0 0=0)/\au H5 H6;cF (K:=K) (a:=a1.1) (xs:=a1.2.map λa=>V.ref a.1) W20 ⟨⟨_,rfl⟩,(λa z=>nomatch z),au.refl _⟩ ?_ ?_ ?_)
   ·rintro j σ H6 _ ⟨_,_,s6⟩;exact aG.of (s6 _ _ ks)
   ·rintro j v σ H6 Xa ⟨⟨v4,rfl⟩,o2,s6⟩;obtain ⟨r,hr,rfl⟩:=xz Xa;have mr:=zB hr;have MR:=Zh.same s6;have kr:=MR.row a1 m1 r mr;have lr:=hp.KS a1 m1 r mr;refine (zr rfl ⟨_, "list", "list", rfl,fQ kr,.inr (.inr (.inl rfl)),zr rfl (az rfl (zr rfl ⟨r.1,zr rfl ⟨.inl (aG.of kr),zr rfl ⟨l,zr rfl ⟨.inl (aG.of (cx.wa.same (s5.trans s6)).1),aH rfl rfl ⟨⟨yW _,by rw [zA];omega,by decide⟩,?_⟩⟩⟩⟩⟩))⟩);refine ⟨rfl,zr rfl (az ?_ ?_)⟩
    ·show (!decide (V.int (((r.2.map V.int).length:Nat):Int)=V.int ((1:Int) * 2 ^ (((ws.map λx=>V.ref x.1).length:Nat):Int).toNat)))=false;rw [zA,zA,ia,lr];simp
    refine (zr rfl ⟨r.1,rfl,⟨_,aG.of kr⟩,?_⟩);refine (let W21:IC:=λs τ acc H7=>(∃ t0,τ=[t0])/\acc=(List.replicate s true).map V.bl/\au H6 H7;cT (K:=K) (a:=r.1) (xs:=r.2.map V.int) W21 ⟨⟨_,rfl⟩,rfl,au.refl _⟩ (by rw [zA];omega) ?_ ?_ ?_)
    ·rintro s τ acc H7 ⟨_,rfl,s7⟩;refine ⟨?_,aG.of (s7 _ _ kr)⟩;rw [zA,yd];exact zE _
    ·rintro s v τ acc H7 C hv3 ⟨⟨t0,rfl⟩,rfl,s7⟩ hC;obtain ⟨y,hy,rfl⟩:=xz hv3;have y0:=hp.pos a1 m1 r mr y (zB hy);refine (zr rfl ⟨V.int y, "int", rfl,rfl,zr rfl (aT rfl (zr rfl (aH rfl rfl (hC _ _ _ ⟨⟨_,rfl⟩,?_,s7⟩))))⟩);rw [List.replicate_succ',zG];show _++[V.bl (decide ((0:Int)<=y))]=_;rw [decide_eq_true y0];rfl
    ·rintro τ acc H7 ⟨⟨t0,rfl⟩,rfl,s7⟩ lc kW;have s8:=s7.trans (xU (o:=HO.lst ((List.replicate (r.2.map V.int).length true).map V.bl)) kW);have al:(List.replicate (r.2.map V.int).length true).all id=true:=by rw [xD];intro x hx;exact List.eq_of_mem_replicate hx
     refine ⟨lc,zr rfl ⟨aG.of xS,zr rfl (az (by rw [al];rfl) (zr rfl (bw (s8 _ _ kr) (qJ (n:=0) (by omega)) ⟨rfl,zr rfl ?_⟩)))⟩⟩;have Wj:=(s5.trans s6).trans s8;by_cases e:r.2.getD 0 0=0
     ·refine az (by rw [e];rfl) ⟨⟨_,rfl⟩,λr' qz=>?_,s6.trans s8⟩;rw [wM hr] at qz;rcases zT.mp qz with h | h
      ·exact o2 r' h
      ·cases zP.mp h;exact e
     ·refine aT (by rw [decide_eq_false (λz=>e (V.int.inj z))];rfl) (q false _ Wj ⟨(λz=>nomatch z),λz=>absurd (z _ (yI m1) _ (yI mr)) e⟩)
   ·rintro σ H6 ⟨⟨v4,rfl⟩,o2,s6⟩;refine ⟨⟨_,_,rfl⟩,λa ZA=>?_,s5.trans s6⟩;rw [wM ha] at ZA;rcases zT.mp ZA with h | h
    ·exact old a h
    ·cases zP.mp h;rw [zA,zv] at o2;exact o2
  ·rintro σ H5 ⟨⟨v3,v4,rfl⟩,old,s5⟩;rw [zA,zv] at old;refine q true H5 s5 ⟨λ_ st vB r0 hr0=>?_,λ_=>rfl⟩;obtain ⟨a,ha,rfl⟩:=zQ.mp vB;obtain ⟨r,hr,rfl⟩:=zQ.mp hr0;exact old a ha r hr
theorem EB:aA ["_law_book_here", "_law_wishes_here", "_law_prices", "_law_k", "_law_walker", "_law_last", "_law_row", "_law_wished"] ["_law_book_here", "_law_wishes_here", "_law_prices"] (aq qG):=L2.bf
theorem G1 (T:Tx K mg a ak ai ah)(B:aS mg base):aO P w K mg base bZ 2 a.AZ a.BT ["_law_book_here", "_law_wishes_here", "_law_prices"] (ng):=by
 have Fe:=FP P w base T B;refine T.Bv.ok EB (λvs H Q E h=>?_) (λbI A outer s H vs Q E hr h=>?_)
 ·obtain ⟨_,_,_,_,_,_,_,_,_,rfl,_⟩:=h;rfl
 ·have nd:=EB.nd;have hu:=hr.units;obtain ⟨b,l,lp,aa,tr,tm,ps,ws,P,rfl,cx,q⟩:=h;refine bT ?_;intro Y
  let B0:Bk Y (nb (nb (nb (aj qG) 0) 0) 0):=⟨_,(xP (xp (xt (@PW.pt _ _ _ (fk (xo qH (xj nE (xj PK (pv 7) (pv 3)) xR) xR (aB _)) (dU (xo eU (xc (xb rfl) (xc (xb rfl) (pv 6) (pv 4) (λ_ _=>rfl)) (pv 7) (λ_ _=>rfl)) (xc (xb rfl) (xc (xb rfl) (pv 6) (pv 4) (λ_ _=>rfl)) (xj cI (pv 7) (xj j3 xR (pv 3))) (λ_ _=>rfl)) (aB _))))) (xP (xp (xh wV))) xk)))⟩
  let B1:Bk Y (nb (nb (aj qG) 0) 0):=⟨_,(xP (xp (wF PassesOwn.never rfl (wZ rfl T.bL (xO (xQ (xj j3 xR (xg (xf rfl) (by rfl) T.aU PySem.boot_len (xO (xQ (pv 1) xY rfl)))) xY rfl))) (xW (i:=7) nd rfl rfl) B0.ps)))⟩
  let B2:Bk Y (nb (aj qG) 0):=⟨_,(xP (xp (wF PassesOwn.never rfl (wP rfl (pJ (KR rfl) (pv 2) tN (nq (xj xu (xZ Fe (hr.mono (by decide)) rfl T.GP T.GS T.GV .nil av (xO (xQ (pv 0) (xQ (pv 5) xY rfl) rfl))) xR)))) (xW (i:=6) nd rfl rfl) B1.ps)))⟩
  refine ⟨_,(xP (xl (wF PassesOwn.never rfl (ir rfl rfl T.bV (xO (xQ (pv 1) xY rfl))) (xw (n:=2) rfl rfl (xV (xW (i:=3) nd rfl rfl) (xV (xw (n:=2) rfl rfl (xV (xW (i:=4) nd rfl rfl) (xV (xW (i:=5) nd rfl rfl) xv))) xv))) B2.ps) (xp (xh wV)))),?_⟩;have line:=bE;have w4:=cx.w4;have Ov:=l5 w4;have Ow:ps.length<=60:=cx.gd.len;have pl:=cx.pr.len;refine (zr rfl ⟨l,rfl,⟨_,aG.of cx.wa.1⟩,?_⟩);refine (let W22:IV:=λi σ H5=>(∃ v3 v4 v5 v6 v7,σ=[some (.ref b),some (.ref l),some (.ref lp),v3,v4,v5,v6,v7])/\(∀ k x,k < i->ws[k]?=some x->OZ (ps.map (·.2)) (aD P) (2 ^ ws.length) k x.2.1 x.2.2)/\au H H5;fV (K:=K) (a:=l) (xs:=ws.map λa=>V.ref a.1) W22 ⟨⟨_,_,_,_,_,rfl⟩,(λk x z=>absurd z (zd _)),au.refl _⟩ ?_ ?_ ?_)
  ·rintro i σ H5 _ ⟨_,_,sm⟩;exact aG.of (sm _ _ cx.wa.1)
  ·rintro i v q0 σ H5 hv hq ⟨⟨v3,v4,v5,v6,v7,rfl⟩,old,sm⟩;obtain ⟨x,hx,rfl⟩:=xz hv;have i4:i < ws.length:=(zC.mp hx).1;have s6:=sm.trans (xU (o:=HO.tup [V.int (i:Int),V.ref x.1]) hq);have kq:upd H5 q0 (HO.tup [V.int (i:Int),V.ref x.1]) q0=some (.tup [V.int (i:Int),V.ref x.1]):=xS;generalize upd H5 q0 (HO.tup [V.int (i:Int),V.ref x.1])=H6 at s6 kq ⊢;have qd:=cx.same s6;obtain ⟨kx,lx⟩:=qd.wa.2 x (zB hx);refine ⟨q0,zr rfl ⟨bq.of kq,rfl,kT rfl (kT rfl (oO kx ⟨rfl,?_⟩))⟩⟩;refine (zr rfl (zr rfl (zr rfl (UQ b x.2.2 aa tr tm ps ⟨rfl,qd.bk,by omega,λH7 s7=>?_⟩))));refine (aH rfl rfl (zr rfl ⟨lp,zr rfl ⟨aG.of (qd.same s7).pr.top,λl2 N3=>?_⟩⟩));rw [show ((cnt (ps.map (·.2)) x.2.2:Nat):Int) + 1=((cnt (ps.map (·.2)) x.2.2 + 1:Nat):Int) from rfl,Mk,<- List.map_take];have s8:=(s6.trans s7).trans (xU (o:=HO.lst ((P.take (cnt (ps.map (·.2)) x.2.2 + 1)).map λa=>V.ref a.1)) N3);have k8:upd H7 l2 (HO.lst ((P.take (cnt (ps.map (·.2)) x.2.2 + 1)).map λa=>V.ref a.1)) l2=some (.lst ((P.take (cnt (ps.map (·.2)) x.2.2 + 1)).map λa=>V.ref a.1)):=xS;generalize upd H7 l2 _=H8 at s8 k8 ⊢;refine ⟨l2,rfl,⟨_,aG.of k8⟩,?_⟩;refine cF (K:=K) (a:=l2) (xs:=(P.take (cnt (ps.map (·.2)) x.2.2 + 1)).map λa=>V.ref a.1) (λj σ H5=>(∃ v6 v7,σ=[some (.ref b),some (.ref l),some (.ref lp),some (.int (i:Int)),some (.int (x.2.1:Int)),some (.int x.2.2),v6,v7])/\(∀ i' < j,∀ s < 2 ^ ws.length,s.testBit i=true->bg (aD P) i' x.2.1 s<=bg (aD P) i' x.2.1 (s - 2 ^ i))/\au H8 H5) ⟨⟨_,_,rfl⟩,(λj z=>absurd z (zd _)),au.refl _⟩ ?_ ?_ ?_
   ·rintro j σ H9 _ ⟨_,_,s9⟩;exact aG.of (s9 _ _ k8)
   ·rintro j v σ H9 Xa ⟨⟨v6,v7,rfl⟩,o2,s9⟩;obtain ⟨a1,ha,rfl⟩:=xz Xa;obtain ⟨lj,hj⟩:=qX ha;have ma:=zB hj;have Ob:=cx.same (s8.trans s9);obtain ⟨r,hr⟩:∃ r,a1.2[x.2.1]?=some r:=⟨_,zF (by rw [Ob.pr.tw a1 ma];exact lx)⟩;have mr:=zB hr;have lr:=Ob.pr.KS a1 ma r mr;refine (zr rfl ⟨l,zr rfl ⟨.inl (aG.of Ob.wa.1),aH rfl rfl ⟨⟨yW _,by rw [zA];omega,by decide⟩,?_⟩⟩⟩);refine ⟨((2 ^ ws.length:Nat):Int),?_,by omega,by omega,?_⟩
    ·show [V.int ((1:Int) * 2 ^ (((ws.map λx=>V.ref x.1).length:Nat):Int).toNat)]=_;rw [zA,ia]
    rw [zm];refine (let W23:IV:=λs σ vS=>(∃ v7,σ=[some (.ref b),some (.ref l),some (.ref lp),some (.int (i:Int)),some (.int (x.2.1:Int)),some (.int x.2.2),some (.ref a1.1),v7])/\(∀ s' < s,s'.testBit i=true->bg (aD P) j x.2.1 s'<=bg (aD P) j x.2.1 (s' - 2 ^ i))/\au H9 vS;qD (lo:=0) (n:=2 ^ ws.length) W23 ⟨⟨_,rfl⟩,(λj z=>absurd z (zd _)),au.refl _⟩ ?_ ?_)
    ·rintro s σ vS hs ⟨⟨v7,rfl⟩,o3,jx⟩;have SH:=Ob.pr.same jx;have ks:=SH.str a1 ma;have kr:=SH.row a1 ma r mr;refine (zr rfl (zr rfl (aH rfl rfl ⟨yW _,aH rfl rfl ⟨rfl,zr rfl ?_⟩⟩)));rw [xM];have eb:decide (V.int (Builtin.bitAnd ((s:Int) / 2 ^ (i:Int).toNat) 1)=V.int 1)=s.testBit i:=by
      rw [Nj];cases s.testBit i <;> rfl
     cases bt:s.testBit i with
     | false=>
      refine az (by rw [<-bt];exact eb) (az rfl ⟨⟨_,rfl⟩,λs' NW eW=>?_,jx⟩);by_cases e:s'=s
      ·subst e;rw [bt] at eW;cases eW
      ·exact o3 s' (by omega) eW
     | true=>
      have ge:=Nat.ge_two_pow_of_testBit bt;have lu:=Nat.sub_le s (2 ^ i);refine aT (by rw [<-bt];exact eb) ?_;refine (zr rfl (zr rfl (bw ks (xq (by rw [zD,hr];rfl)) (zr rfl (bw kr (qJ (by omega)) ?_)))));refine (zr rfl (zr rfl (bw ks (xq (by rw [zD,hr];rfl)) (zr rfl (zr rfl (aH rfl rfl ⟨⟨yW _,by omega,by decide⟩,?_⟩))))));refine (aH rfl rfl (bw kr (show dI _ ((s:Int) - (1:Int) * 2 ^ (i:Int).toNat)=some (V.int (r.2.getD (s - 2 ^ i) 0)) from by rw [ia,show (s:Int) - ((2 ^ i:Nat):Int)=((s - 2 ^ i:Nat):Int) by omega];exact qJ (by omega)) (aH rfl rfl (zr rfl ?_))));refine cY (λc0=>q false _ ((s8.trans s9).trans jx) ⟨(λz=>nomatch z),λz=>?_⟩) (λc0=>⟨⟨_,rfl⟩,λs' NW eW=>?_,jx⟩)
      ·have:=z i x hx j (by omega) s hs bt;rw [wj hj hr,wj hj hr] at this;omega
      ·by_cases e:s'=s
       ·subst e;rw [wj hj hr,wj hj hr];omega
       ·exact o3 s' (by omega) eW
    ·rintro σ vS ⟨⟨v7,rfl⟩,o3,jx⟩;refine ⟨⟨_,_,rfl⟩,λi' e8 s hs hb=>?_,s9.trans jx⟩;by_cases e:i'=j
     ·subst e;exact o3 s hs hb
     ·exact o2 i' (by omega) s hs hb
   ·rintro σ H9 ⟨⟨v6,v7,rfl⟩,o2,s9⟩;refine ⟨⟨_,_,_,_,_,rfl⟩,λk y hk hy=>?_,s8.trans s9⟩;by_cases e:k=i
    ·subst e;rw [hx] at hy;cases hy;intro i' e8 s hs hb;have:=cZ (ps.map (·.2)) x.2.2;rw [zA] at this;exact o2 i' (by rw [zA,zu];omega) s hs hb
    ·exact old k y (by omega) hy
  ·rintro σ H5 ⟨⟨v3,v4,v5,v6,v7,rfl⟩,old,sm⟩;refine q true H5 sm ⟨λ_ k x hx=>old k x (by rw [zA];exact (zC.mp hx).1) hx,λ_=>rfl⟩
theorem Eg:aA ["_law_now", "_law_kept", "_law_given", "_law_wished", "_law_part"] ["_law_now", "_law_kept", "_law_given"] (aq CK):=L2.bf
theorem Gp (T:Tx K mg a ak ai ah)(B:aS mg base):aO P w K mg base bZ 1 a.AJ a.BG ["_law_now", "_law_kept", "_law_given"] (uS):=by
 refine T.Be.ok Eg (λvs H Q E h=>?_) (λbI A outer s H vs Q E hr h=>?_)
 ·obtain ⟨_,_,_,_,_,_,_,rfl,_⟩:=h;rfl
 ·have nd:=Eg.nd;have hu:=hr.units;obtain ⟨l1,l2,l3,xs,ys,zs,sz,rfl,k1,k2,k3,e1,e2,e3,YM,q⟩:=h;refine bT ?_;intro Y
  let B0:Bk Y (nb (nb (aj CK) 0) 0):=⟨_,(xP (xp (xt (@PW.pt _ _ _ (fk (xo qH (xj nE (pv 4) (pv 3)) (pv 4) (aB _)) (dU (xo eU (xc (xb rfl) (pv 0) (pv 3) (λ_ _=>rfl)) (xj xu (xj xu xR (xc (xb rfl) (pv 1) (pv 4) (λ_ _=>rfl))) (xc (xb rfl) (pv 2) (xj cI (pv 3) (pv 4)) (λ_ _=>rfl))) (aB _))))) (xP (xp (xh wV))) xk)))⟩
  refine ⟨_,(xP (xl (wF PassesOwn.never rfl (wZ rfl T.bL (xO (xQ (xg (xf rfl) (by rfl) T.aU PySem.boot_len (xO (xQ (pv 0) xY rfl))) xY rfl))) (xW (i:=3) nd rfl rfl) (xP (xp (wF PassesOwn.never rfl (wZ rfl T.bL (xO (xQ (xj xu (pv 3) xR) xY rfl))) (xW (i:=4) nd rfl rfl) B0.ps)))) (xp (xh wV)))),?_⟩;have line:=bE;refine (zr rfl ⟨l1,zr rfl ⟨.inl (aG.of k1),?_⟩⟩);refine (zr rfl ⟨by omega,by rw [zA];omega,?_⟩);rw [zm,zA,e1];refine (let W24:IV:=λs σ H5=>(∃ v3 v4,σ=[some (.ref l1),some (.ref l2),some (.ref l3),v3,v4])/\(∀ s' < s,∀ p,p<=s'->p &&& s'=p->xs.getD s' 0<=1 + ys.getD p 0 + zs.getD (s' - p) 0)/\au H H5;qD (lo:=0) (n:=sz) W24 ⟨⟨_,_,rfl⟩,(λj z=>absurd z (zd _)),au.refl _⟩ ?_ ?_)
  ·rintro s σ H5 hs ⟨⟨v3,v4,rfl⟩,old,s5⟩;refine (zr rfl (aH rfl rfl (zr rfl ⟨by omega,by omega,?_⟩)));rw [xM,show ((s:Int) + 1).toNat=s + 1 by omega];refine (let W25:IV:=λp σ H6=>(∃ v4,σ=[some (.ref l1),some (.ref l2),some (.ref l3),some (.int (s:Int)),v4])/\(∀ p' < p,p' &&& s=p'->xs.getD s 0<=1 + ys.getD p' 0 + zs.getD (s - p') 0)/\au H5 H6;qD (lo:=0) (n:=s + 1) W25 ⟨⟨_,rfl⟩,(λj z=>absurd z (zd _)),au.refl _⟩ ?_ ?_)
   ·rintro p σ H6 hp ⟨⟨v4,rfl⟩,o2,s6⟩;have T9:=s5.trans s6;refine (zr rfl (zr rfl (aH rfl rfl (zr rfl ⟨rfl,?_⟩))));rw [xM];refine (zr rfl ?_);have sl:s < sz:=hs;by_cases nV:p &&& s=p
    ·refine aT (by show decide (V.int (Builtin.bitAnd (p:Int) (s:Int))=V.int (p:Int))=true;rw [iH,nV];exact decide_eq_true rfl) ?_;refine (zr rfl (zr rfl (bw (T9 _ _ k1) (qJ (by omega)) (zr rfl (zr rfl (bw (T9 _ _ k2) (qJ (by omega)) (aH rfl rfl (zr rfl (zr rfl (zr rfl (aH rfl rfl (bw (T9 _ _ k3) (show dI _ ((s:Int) - (p:Int))=some (V.int (zs.getD (s - p) 0)) from by rw [show (s:Int) - (p:Int)=((s - p:Nat):Int) by omega];exact qJ (by omega)) (aH rfl rfl (aH rfl rfl (zr rfl ?_)))))))))))))));refine cY (λc0=>q false _ T9 ⟨(λz=>nomatch z),λz=>?_⟩) (λc0=>⟨⟨_,rfl⟩,λp' Ro hb=>?_,s6⟩)
     ·have:=z s sl p (by omega) nV;omega
     ·by_cases e:p'=p
      ·subst e;omega
      ·exact o2 p' (by omega) hb
    ·refine az (by show decide (V.int (Builtin.bitAnd (p:Int) (s:Int))=V.int (p:Int))=false;rw [iH];exact decide_eq_false (λz=>nV (Int.ofNat.inj (V.int.inj z)))) (az rfl ⟨⟨_,rfl⟩,λp' Ro hb=>?_,s6⟩);by_cases e:p'=p
     ·subst e;exact absurd hb nV
     ·exact o2 p' (by omega) hb
   ·rintro σ H6 ⟨⟨v4,rfl⟩,o2,s6⟩;refine ⟨⟨_,_,rfl⟩,λs' NW p hp hb=>?_,s5.trans s6⟩;by_cases e:s'=s
    ·subst e;exact o2 p (by omega) hb
    ·exact old s' (by omega) p hp hb
  ·rintro σ H5 ⟨⟨v3,v4,rfl⟩,old,s5⟩;exact q true H5 s5 ⟨λ_=>old,λ_=>rfl⟩
theorem Ef:aA ["_law_book_here", "_law_prices", "_law_at", "_law_one", "_law_other", "_law_when", "_law_passed", "_law_now", "_law_later", "_law_giver", "_law_taker"] ["_law_book_here", "_law_prices"] (aq wR):=L2.bf
theorem Gn (T:Tx K mg a ak ai ah)(B:aS mg base):aO P w K mg base bZ 2 a.AI a.BF ["_law_book_here", "_law_prices"] (uQ):=by
 have HU:=Gp P w base T B;refine T.Bd.ok Ef (λvs H Q E h=>?_) (λbI A outer s H vs Q E hr h=>?_)
 ·obtain ⟨_,_,_,_,_,_,_,_,_,rfl,_⟩:=h;rfl
 ·have nd:=Ef.nd;have hu:=hr.units;obtain ⟨b,l,lp,aa,tr,tm,ps,ws,P,rfl,cx,q⟩:=h;refine bT ?_;intro Y
  let B0:Bk Y (nb (nb (aj wR) 0) 1):=⟨_,(xP (xp (xt (wJ (wE (xZ HU (hr.mono (by decide)) rfl T.G9 T.Hf T.Hl .nil av (xO (xQ (xc (xb rfl) (xc (xb rfl) (pv 1) (pv 2) (λ_ _=>rfl)) (pv 9) (λ_ _=>rfl)) (xQ (xc (xb rfl) (xc (xb rfl) (pv 1) (xj xu (pv 2) xR) (λ_ _=>rfl)) (pv 9) (λ_ _=>rfl)) (xQ (xc (xb rfl) (xc (xb rfl) (pv 1) (xj xu (pv 2) xR) (λ_ _=>rfl)) (pv 10) (λ_ _=>rfl)) xY rfl) rfl) rfl))))) (xP (xp (xh wV))) xk)))⟩
  let B1:Bk Y ((nb (aj wR) 0).drop 1):=⟨_,(xP (xp (wF PassesOwn.never rfl (wP rfl (wI (xO (xQ (wB (xO (xQ (pv 3) (xQ (pv 4) xY rfl) rfl))) (xQ (wB (xO (xQ (pv 4) (xQ (pv 3) xY rfl) rfl))) xY rfl) rfl)))) (xw (n:=2) rfl rfl (xV (xW (i:=9) nd rfl rfl) (xV (xW (i:=10) nd rfl rfl) xv))) B0.ps)))⟩
  let B2:Bk Y (nb (nb (aj wR) 0) 0):=⟨_,(xP (xp (xt (wE (xg (Mp rfl rfl) (by rfl) T.Tr PyProof.Rows.boot_any (xO (xQ (wu (own:=["_law_number", "_law_behind"]) (caps:=[]) rfl (show aM ["_law_number", "_law_behind"] [] ["_law_book_here", "_law_prices", "_law_at", "_law_one", "_law_other", "_law_when", "_law_passed", "_law_now", "_law_later", "_law_giver", "_law_taker"] (aq wR) _ from L2.i6) (tQ rfl rfl T.OS (xO (xQ (pv 7) (xQ (pv 8) xY rfl) rfl))) (λ_ _ _ _=>(xw (n:=2) rfl rfl (xV (xW (i:=0) (show List.Nodup (["_law_number", "_law_behind"]:List Str) from by decide +kernel) rfl rfl) (xV (xW (i:=1) (show List.Nodup (["_law_number", "_law_behind"]:List Str) from by decide +kernel) rfl rfl) xv)))) (λ_ _ _ _=>cA) (λ_ _ _ _=>(dW eU (pv 0) (pv 1) (aB _)))) xY rfl)))) (xP (xp (xh wV))) xk)))⟩
  let B3:Bk Y (nb (aj wR) 0):=⟨_,(xP (xl (wF PassesOwn.never rfl (tQ rfl rfl T.OS (xO (xQ (xc (xb rfl) (pv 1) (pv 2) (λ_ _=>rfl)) (xQ (xc (xb rfl) (pv 1) (xj xu (pv 2) xR) (λ_ _=>rfl)) xY rfl) rfl))) (xw (n:=2) rfl rfl (xV (xW (i:=7) nd rfl rfl) (xV (xW (i:=8) nd rfl rfl) xv))) B2.ps) B1.bl))⟩
  refine ⟨_,(xP (xl (wF PassesOwn.never rfl (pH rfl rfl T.bV (xO (xQ (xc (xi rfl) (pv 0) xR (λ_ _=>rfl)) xY rfl))) (xw (n:=2) rfl rfl (xV (xW (i:=2) nd rfl rfl) (xV (xw (n:=4) rfl rfl (xV (xW (i:=3) nd rfl rfl) (xV (xW (i:=4) nd rfl rfl) (xV (xW (i:=5) nd rfl rfl) (xV (xW (i:=6) nd rfl rfl) xv))))) xv))) B3.ps) (xp (xh wV)))),?_⟩;have line:=bE;have w4:=cx.w4;have Ov:=l5 w4;have Ow:ps.length<=60:=cx.gd.len;have hp:=cx.pr;have hb:=cx.bk;have pl:=hp.len;refine (zr rfl (bM hb.book rfl ⟨tm,rfl,⟨_,bq.of hb.meets⟩,?_⟩));refine (let W26:IV:=λi σ H5=>(∃ v2 v3 v4 v5 v6 v7 v8 v9 v10,σ=[some (.ref b),some (.ref lp),v2,v3,v4,v5,v6,v7,v8,v9,v10])/\(∀ i' < i,ME (aD P) i' aa.length (2 ^ ws.length)/\MK (ps.map (·.2)) (aD P) i' (2 ^ ws.length))/\au H H5;mH (K:=K) (a:=tm) (xs:=ps.map λa=>V.ref a.1) W26 ⟨⟨_,_,_,_,_,_,_,_,_,rfl⟩,(λj z=>absurd z (zd _)),au.refl _⟩ ?_ ?_ ?_)
  ·rintro i σ H5 _ ⟨_,_,s5⟩;exact bq.of (s5 _ _ hb.meets)
  ·rintro i v q0 σ H5 hv hq ⟨⟨v2,v3,v4,v5,v6,v7,v8,v9,v10,rfl⟩,old,s5⟩;obtain ⟨x,hx,rfl⟩:=xz hv;have mx:=zB hx;have il:i < ps.length:=(zC.mp hx).1;have s6:=s5.trans (xU (o:=HO.tup [V.int (i:Int),V.ref x.1]) hq);have kq:upd H5 q0 (HO.tup [V.int (i:Int),V.ref x.1]) q0=some (.tup [V.int (i:Int),V.ref x.1]):=xS;generalize upd H5 q0 (HO.tup [V.int (i:Int),V.ref x.1])=H6 at s6 kq ⊢;have MR:=hp.same s6;have kx:=(hb.same s6).rows x mx;have fx:=cx.gd.at mx;obtain ⟨a1,Rr⟩:∃ a,P[i]?=some a:=⟨_,zF (by omega)⟩;obtain ⟨a2,OJ⟩:∃ a,P[i + 1]?=some a:=⟨_,zF (by omega)⟩;have m1:=zB Rr;have m2:=zB OJ;refine ⟨q0,zr rfl ⟨bq.of kq,rfl,kT rfl (kT rfl (Kq kx ⟨rfl,?_⟩))⟩⟩;refine (zr rfl (zr rfl (bw MR.top (xq (by rw [zD,Rr];rfl)) (zr rfl (zr rfl (aH rfl rfl (bw MR.top (xq (j:=i + 1) (by rw [zD,OJ];rfl)) ?_)))))));refine ⟨a1.1,a2.1,rfl,⟨_,aG.of (MR.str a1 m1)⟩,⟨_,aG.of (MR.str a2 m2)⟩,?_⟩;have e12:a1.2.length=a2.2.length:=by rw [hp.tw a1 m1,hp.tw a2 m2]
   refine LV (K:=K) (a:=a1.1) (b:=a2.1) (xs:=a1.2.map λa=>V.ref a.1) (ys:=a2.2.map λa=>V.ref a.1) (by rw [zA,zA,e12]) (λj σ H7=>(∃ v7 v8 v9 v10,σ=[some (.ref b),some (.ref lp),some (.int (i:Int)),some (.int x.2.lo),some (.int x.2.hi),some (.int x.2.t),some (.int x.2.m),v7,v8,v9,v10])/\(∀ j' < j,∀ s < 2 ^ ws.length,bg (aD P) i j' s<=bg (aD P) (i + 1) j' s)/\au H6 H7) ⟨⟨_,_,_,_,rfl⟩,(λj z=>absurd z (zd _)),au.refl _⟩ ?_ ?_ ?_
   ·rintro j σ H7 _ ⟨_,_,s7⟩;exact ⟨aG.of (s7 _ _ (MR.str a1 m1)),aG.of (s7 _ _ (MR.str a2 m2))⟩
   ·rintro j x1 y1 q1 σ H7 hx1 WW OC ⟨⟨v7,v8,v9,v10,rfl⟩,o2,s7⟩;obtain ⟨b1,iZ,rfl⟩:=xz hx1;obtain ⟨b2,nM,rfl⟩:=xz WW;have s8:=s7.trans (xU (o:=HO.tup [V.ref b1.1,V.ref b2.1]) OC);have Y8:upd H7 q1 (HO.tup [V.ref b1.1,V.ref b2.1]) q1=some (.tup [V.ref b1.1,V.ref b2.1]):=xS;generalize upd H7 q1 _=H8 at s8 Y8 ⊢;have UB:=MR.same s8;have MO:=zB iZ;have WE:=zB nM;have l1:=hp.KS a1 m1 b1 MO;have Uv:=hp.KS a2 m2 b2 WE;refine (oO Y8 ?_);refine (zr rfl (zr rfl ⟨b1.1,b2.1,rfl,⟨_,aG.of (UB.row a1 m1 b1 MO)⟩,⟨_,aG.of (UB.row a2 m2 b2 WE)⟩,?_⟩));refine vM (K:=K) (a:=b1.1) (b:=b2.1) (xs:=b1.2.map V.int) (ys:=b2.2.map V.int) (by rw [zA,zA,l1,Uv]) (λs τ acc H9=>(∃ t0 t1,τ=[t0,t1])/\acc=(((b1.2.zip b2.2).take s).map λp=>decide (p.2 < p.1)).map V.bl/\au H8 H9) ⟨⟨_,_,rfl⟩,rfl,au.refl _⟩ (by rw [zA];omega) ?_ ?_ ?_
    ·rintro s τ acc H9 ⟨_,rfl,s9⟩;refine ⟨?_,aG.of (s9 _ _ (UB.row a1 m1 b1 MO)),aG.of (s9 _ _ (UB.row a2 m2 b2 WE))⟩;rw [zA,zA,zu];omega
    ·rintro s x y q2 τ acc H9 C hx hy OB ⟨⟨t0,t1,rfl⟩,rfl,s9⟩ hC;obtain ⟨c1,OH,rfl⟩:=xz hx;obtain ⟨c2,OG,rfl⟩:=xz hy;have jx:=s9.trans (xU (o:=HO.tup [V.int c1,V.int c2]) OB);refine (oO xS (zr rfl (zr rfl (aH rfl rfl (hC _ _ _ ⟨⟨_,_,rfl⟩,?_,jx⟩)))));rw [wM (Km OH OG),zG,zG];rfl
    ·rintro τ acc H9 ⟨⟨t0,t1,rfl⟩,rfl,s9⟩ lc kW;have eb:((b1.2.zip b2.2).take (b1.2.map V.int).length).map (λp=>decide (p.2 < p.1))=gtB b1.2 b2.2:=by rw [zA,List.take_of_length_le (by rw [List.length_zip];exact Nat.min_le_left _ _)];rfl
     rw [eb];have RY:=s9.trans (xU (o:=HO.lst ((gtB b1.2 b2.2).map V.bl)) kW);refine ⟨lc,zr rfl ⟨aG.of xS,zr rfl ?_⟩⟩;cases eo:(gtB b1.2 b2.2).any id with
     | true=>
      have jw:j < aa.length:=by have:=(zC.mp iZ).1;have:=hp.tw a1 m1;omega
      refine aT rfl (q false _ ((s6.trans s8).trans RY) ⟨(λz=>nomatch z),λz=>?_⟩);rw [(OM l1 Uv).mpr λs hs=>by have:=z.1 i il j jw s hs;rwa [wj Rr iZ,wj OJ nM] at this] at eo;cases eo
     | false=>
      refine az rfl ⟨⟨_,_,_,_,rfl⟩,λj' kh s hs=>?_,s8.trans RY⟩;by_cases e:j'=j
      ·subst e;rw [wj Rr iZ,wj OJ nM];exact (OM l1 Uv).mp eo s hs
      ·exact o2 j' (by omega) s hs
   rintro σ H7 ⟨⟨v7,v8,v9,v10,rfl⟩,o2,s7⟩;rw [zA,hp.tw a1 m1] at o2;obtain ⟨lo,Tf⟩:=zk fx.1;obtain ⟨hi,Tg⟩:∃ n:Nat,x.2.hi=n:=zk (by omega);rw [Tf,Tg];have lor:lo < aa.length:=by omega
   have Zq:hi < aa.length:=by omega
   refine (zr rfl (zr rfl ⟨by show 2<=sizeLine;omega,λt1 kU=>?_⟩));have z1:=xU (o:=HO.tup [V.int (lo:Int),V.int (hi:Int)]) kU;have y1:upd H7 t1 (HO.tup [V.int (lo:Int),V.int (hi:Int)]) t1=some (.tup [V.int (lo:Int),V.int (hi:Int)]):=xS;generalize upd H7 t1 _=H8 at z1 y1 ⊢;refine (zr rfl (zr rfl ⟨by show 2<=sizeLine;omega,λt2 lE=>?_⟩));have z2:=xU (o:=HO.tup [V.int (hi:Int),V.int (lo:Int)]) lE;have y2:upd H8 t2 (HO.tup [V.int (hi:Int),V.int (lo:Int)]) t2=some (.tup [V.int (hi:Int),V.int (lo:Int)]):=xS;generalize upd H8 t2 _=H9 at z2 y2 ⊢;refine ⟨by show 2<=sizeLine;omega,λt3 Xe=>?_⟩;have z3:=xU (o:=HO.lst [V.ref t1,V.ref t2]) Xe;have y3:upd H9 t3 (HO.lst [V.ref t1,V.ref t2]) t3=some (.lst [V.ref t1,V.ref t2]):=xS;generalize upd H9 t3 _=vS at z3 y3 ⊢;have jx:=(s6.trans s7).trans ((z1.trans z2).trans z3);have y1':=z3 _ _ (z2 _ _ y1);have y2':=z3 _ _ y2;refine ⟨t3,rfl,⟨_,aG.of y3⟩,?_⟩;refine (let W27:IV:=λj σ Q6=>(∃ v7 v8 v9 v10,σ=[some (.ref b),some (.ref lp),some (.int (i:Int)),some (.int (lo:Int)),some (.int (hi:Int)),some (.int x.2.t),some (.int x.2.m),v7,v8,v9,v10])/\(1<=j->bU (aD P) i lo hi (2 ^ ws.length))/\(2<=j->bU (aD P) i hi lo (2 ^ ws.length))/\au vS Q6;cF (K:=K) (a:=t3) (xs:=[V.ref t1,V.ref t2]) W27 ⟨⟨_,_,_,_,rfl⟩,(λz=>absurd z (by decide)),(λz=>absurd z (by decide)),au.refl _⟩ ?_ ?_ ?_)
   ·rintro j σ Q6 _ ⟨_,_,_,KU⟩;exact aG.of (KU _ _ y3)
   ·rintro j v σ Q6 hv ⟨⟨v7,v8,v9,v10,rfl⟩,o3,o4,KU⟩;obtain ⟨t,g,o,rfl,yt,gl,ol,ug,uo⟩:∃ (t:Addr) (g o:Nat),v=V.ref t/\vS t=some (.tup [V.int (g:Int),V.int (o:Int)])/\g < aa.length/\o < aa.length/\(f9 (ps.map (·.2)) (aD P) (2 ^ ws.length)->bU (aD P) i g o (2 ^ ws.length))/\(bU (aD P) i g o (2 ^ ws.length)->(1<=j + 1->bU (aD P) i lo hi (2 ^ ws.length))/\(2<=j + 1->bU (aD P) i hi lo (2 ^ ws.length))):=by
     have gA:f9 (ps.map (·.2)) (aD P) (2 ^ ws.length)->bU (aD P) i lo hi (2 ^ ws.length)/\bU (aD P) i hi lo (2 ^ ws.length):=λz=>by
      have:=sD z (nH hx);rwa [Tf,Tg,zm,zm] at this
     rcases j with _ | _ | j
     ·cases hv;exact ⟨t1,lo,hi,rfl,y1',lor,Zq,λz=>(gA z).1,λz=>⟨λ_=>z,λc=>absurd c (by decide)⟩⟩
     ·cases hv;exact ⟨t2,hi,lo,rfl,y2',Zq,lor,λz=>(gA z).2,λz=>⟨λ_=>o3 (zE _),λ_=>z⟩⟩
     ·cases hv
    have nK:=MR.same ((s7.trans ((z1.trans z2).trans z3)).trans KU);obtain ⟨b1,iZ⟩:∃ r,a1.2[g]?=some r:=⟨_,zF (by rw [hp.tw a1 m1];exact gl)⟩;obtain ⟨c1,OH⟩:∃ r,a2.2[g]?=some r:=⟨_,zF (by rw [hp.tw a2 m2];exact gl)⟩;obtain ⟨d1,OE⟩:∃ r,a2.2[o]?=some r:=⟨_,zF (by rw [hp.tw a2 m2];exact ol)⟩;have MO:=zB iZ;have Y4:=zB OH;have Sd:=zB OE;refine (oO (KU _ _ yt) ?_);refine (zr rfl (zr rfl (bw nK.top (xq (by rw [zD,Rr];rfl)) (zr rfl (bw (nK.str a1 m1) (xq (by rw [zD,iZ];rfl)) ?_)))));refine (zr rfl (zr rfl (aH rfl rfl (bw nK.top (xq (j:=i + 1) (by rw [zD,OJ];rfl)) (zr rfl (bw (nK.str a2 m2) (xq (by rw [zD,OH];rfl)) ?_))))));refine (zr rfl (zr rfl (aH rfl rfl (bw nK.top (xq (j:=i + 1) (by rw [zD,OJ];rfl)) (zr rfl (bw (nK.str a2 m2) (xq (by rw [zD,OE];rfl)) ?_))))));refine ⟨b1.1,c1.1,d1.1,b1.2,c1.2,d1.2,2 ^ ws.length,rfl,nK.row a1 m1 b1 MO,nK.row a2 m2 c1 Y4,nK.row a2 m2 d1 Sd,hp.KS a1 m1 b1 MO,hp.KS a2 m2 c1 Y4,hp.KS a2 m2 d1 Sd,Ov,λbb Q5 RY eg=>?_⟩;have ga:bU (aD P) i g o (2 ^ ws.length)↔∀ s < 2 ^ ws.length,∀ p,p<=s->p &&& s=p->b1.2.getD s 0<=1 + c1.2.getD p 0 + d1.2.getD (s - p) 0:=by
     unfold bU qu;simp only [wj Rr iZ,wj OJ OH,wj OJ OE]
    cases bb with
    | false=>exact (zr rfl (aT rfl (q false _ ((jx.trans KU).trans RY) ⟨(λz=>nomatch z),λz=>nomatch eg.mpr (ga.mp (ug z.2))⟩)))
    | true=>
     have u:=uo (ga.mpr (eg.mp rfl));exact (zr rfl (az rfl ⟨⟨_,_,_,_,rfl⟩,u.1,u.2,KU.trans RY⟩))
   ·rintro σ Q6 ⟨⟨v7,v8,v9,v10,rfl⟩,o3,o4,KU⟩;refine ⟨⟨_,_,_,_,_,_,_,_,_,rfl⟩,λi' e8=>?_,jx.trans KU⟩;by_cases e:i'=i
    ·subst e;refine ⟨o2,λm hm=>?_⟩;rw [nH hx] at hm;cases hm;rw [Tf,Tg,zm,zm];exact ⟨o3 (yC 1),o4 (zE 2)⟩
    ·exact old i' (by omega)
  ·rintro σ H5 ⟨⟨v2,v3,v4,v5,v6,v7,v8,v9,v10,rfl⟩,old,s5⟩;refine q true H5 s5 ⟨λ_=>⟨λi hi=>(old i (by rw [zA];exact hi)).1,sC λi hi=>(old i (by rw [zA] at hi ⊢;exact hi)).2⟩,λ_=>rfl⟩
theorem ED:aA ["_law_book_here", "_law_letter", "_law_numbers", "_law_sender", "_law_since", "_law_wish", "_law_last", "_law_one", "_law_other", "_law_when", "_law_passed", "_law_giver", "_law_taker"] ["_law_book_here", "_law_letter", "_law_numbers"] (aq wG):=L2.bf
theorem G3 (T:Tx K mg a ak ai ah)(B:aS mg base):aO P w K mg base bZ 2 a.A4 a.BV ["_law_book_here", "_law_letter", "_law_numbers"] (Nd):=by
 have AK:=Cs P w base T B;refine T.Bx.ok ED (λvs H Q E h=>?_) (λbI A outer s H vs Q E hr h=>?_)
 ·obtain ⟨_,_,_,_,_,_,_,_,_,_,_,_,rfl,_⟩:=h;rfl
 ·have nd:=ED.nd;have hu:=hr.units;obtain ⟨b,lt,l,f,s0,w0,a0,z0,aa,tr,tm,ps,rfl,hb,hn,gd,hL,h1,hB,q⟩:=h;refine bT ?_;intro Y
  let B0:Bk Y (nb (nb (nb (aj wG) 4) 0) 0):=⟨_,(xP (xp (xt (@PW.pt _ _ _ (wl (b9 (cH (xc (xb rfl) (pv 2) (pv 12) (λ_ _=>rfl)))) (wc (xo eU (xc (xb rfl) (pv 2) (pv 12) (λ_ _=>rfl)) (pv 9) (aB _))))) (xP (xp (xh wV))) xk)))⟩
  let B1:Bk Y (nb (nb (aj wG) 4) 0):=⟨_,(xP (xp (xt (@PW.pt _ _ _ (fk (b9 (fU (xc (xb rfl) (pv 2) (pv 11) (λ_ _=>rfl)))) (dU (xo jj (xc (xb rfl) (pv 2) (pv 11) (λ_ _=>rfl)) (pv 9) (aB _))))) B0.ps xk)))⟩
  let B2:Bk Y (nb (aj wG) 4):=⟨_,(xP (xp (wF PassesOwn.never rfl (wP rfl (wI (xO (xQ (wB (xO (xQ (pv 7) (xQ (pv 8) xY rfl) rfl))) (xQ (wB (xO (xQ (pv 8) (xQ (pv 7) xY rfl) rfl))) xY rfl) rfl)))) (xw (n:=2) rfl rfl (xV (xW (i:=11) nd rfl rfl) (xV (xW (i:=12) nd rfl rfl) xv))) B1.ps)))⟩
  let B3:Bk Y ((aj wG).drop 4):=⟨_,(xP (xl (wF PassesOwn.never rfl (fz rfl (xc (xi rfl) (pv 0) xR (λ_ _=>rfl))) (xw (n:=4) rfl rfl (xV (xW (i:=7) nd rfl rfl) (xV (xW (i:=8) nd rfl rfl) (xV (xW (i:=9) nd rfl rfl) (xV (xW (i:=10) nd rfl rfl) xv))))) B2.ps) (xp (xh (Ot (jZ (cH (xc (xb rfl) (pv 2) (pv 5) (λ_ _=>rfl)))) (dD (dW eU (xc (xb rfl) (pv 2) (pv 5) (λ_ _=>rfl)) (pv 6) (aB _))))))))⟩
  let B4:Bk Y ((aj wG).drop 3):=⟨_,(xP (xl (xt (@PW.pt _ _ _ (wl (b9 (cH (xc (xb rfl) (pv 2) (pv 3) (λ_ _=>rfl)))) (wc (xo eU (xc (xb rfl) (pv 2) (pv 3) (λ_ _=>rfl)) (pv 4) (aB _))))) (xP (xp (xh wV))) xk) B3.bl))⟩
  let B5:Bk Y ((aj wG).drop 2):=⟨_,(xP (xl (xt (wJ (wE (xg (kH rfl rfl) (by rfl) T.Mv PyProof.Rows.boot_all (xO (xQ (wu (own:=["_law_number"]) (caps:=[]) rfl (show aM ["_law_number"] [] ["_law_book_here", "_law_letter", "_law_numbers", "_law_sender", "_law_since", "_law_wish", "_law_last", "_law_one", "_law_other", "_law_when", "_law_passed", "_law_giver", "_law_taker"] (aq wG) _ from L2.i6) (wP rfl (pv 2)) (λ_ _ _ _=>(xW (i:=0) (show List.Nodup (["_law_number"]:List Str) from by decide +kernel) rfl rfl)) (λ_ _ _ _=>cA) (λ_ _ _ _=>(Ot (jZ (cH (pv 0))) (dD (xZ AK (hr.mono (by decide)) rfl T.Cb T.Cc T.Cd .nil av (xO (xQ (pv 0) xY rfl))))))) xY rfl))))) (xP (xp (xh wV))) xk) B4.bl))⟩
  let B6:Bk Y ((aj wG).drop 1):=⟨_,(xP (xl (xt (@PW.pt _ _ _ (wl (wJ (wE (xg (xy) (by rfl) T.aI zR (xO (xQ (pv 2) (xQ (wY (v:=V.ty "list") rfl T.fJ yH rfl) xY rfl) rfl))))) (wc (xo eS (xg (xf rfl) (by rfl) T.aU PySem.boot_len (xO (xQ (pv 2) xY rfl))) (xg (xf rfl) (by rfl) T.aU PySem.boot_len (xO (xQ (xc (xi rfl) (pv 0) xR (λ_ _=>rfl)) xY rfl))) (aB _))))) (xP (xp (xh wV))) xk) B5.bl))⟩
  refine ⟨_,(xP (xl (wd (pv 1) (xw (n:=4) rfl rfl (xV (xW (i:=3) nd rfl rfl) (xV (xW (i:=4) nd rfl rfl) (xV (xW (i:=5) nd rfl rfl) (xV (xW (i:=6) nd rfl rfl) xv)))))) B6.bl)),?_⟩;have line:=bE;obtain ⟨cN,SE,W0,_⟩:=id hL;unfold uz at hB;rw [zb,zb] at hB;obtain ⟨u1,u2,cl⟩:=hB;have YD:bX (f w0) z0=false:=by
   cases e:bX (f w0) z0 with
   | false=>rfl
   | true=>rw [e] at u2;cases u2
  obtain ⟨y1,WW,ly1⟩:=bJ.mp u1;refine (zr rfl (Kq cN ?_));refine (zr rfl ⟨_, "list", "list", rfl,fQ h1,.inr (.inr (.inl rfl)),zr rfl (az rfl (zr rfl ⟨l,zr rfl ⟨.inl (aG.of h1),zr rfl (bM hb.book rfl ⟨tr,zr rfl ⟨.inr (bq.of hb.aa),rfl,zr rfl (Lz ?_ ?_)⟩⟩)⟩⟩))⟩)
  ·rw [zA,wg,zA]
  refine (zr rfl ⟨l,rfl,⟨_,aG.of h1⟩,?_⟩);refine (let W28:IC:=λi τ acc H5=>(∃ t0,τ=[t0])/\acc=List.map V.bl (List.replicate i true)/\H5=H;cT (K:=K) (a:=l) (xs:=(rep aa.length f).map oV) W28 ⟨⟨_,rfl⟩,rfl,rfl⟩ (by rw [zA,wg];omega) ?_ ?_ ?_)
  ·rintro i τ acc H5 ⟨_,rfl,rfl⟩;exact ⟨by rw [zA,yd];exact zE _,aG.of h1⟩
  ·rintro i x τ acc H5 C hx ⟨⟨t0,rfl⟩,rfl,rfl⟩ hC;obtain ⟨r,hr,rfl⟩:=xz hx;have sn:List.map V.bl (List.replicate i true)++[V.bl true]=List.map V.bl (List.replicate (i + 1) true):=by rw [List.replicate_succ',zG];rfl
   cases r with
   | none=>exact (zr rfl (zr rfl (aT rfl (hC _ _ _ ⟨⟨_,rfl⟩,sn,rfl⟩))))
   | some z=>exact (zr rfl (zr rfl (az rfl (zr rfl ⟨.int z, "int", rfl,rfl,hC _ _ _ ⟨⟨_,rfl⟩,sn,rfl⟩⟩))))
  rintro τ acc H5 ⟨_,rfl,e5⟩ lc kW;have e5':=e5.symm;subst e5';have s2:=xU (o:=HO.lst (List.map V.bl (List.replicate ((rep aa.length f).map oV).length true))) kW;have k2:upd H lc (HO.lst (List.map V.bl (List.replicate ((rep aa.length f).map oV).length true))) lc=some (.lst (List.map V.bl (List.replicate ((rep aa.length f).map oV).length true))):=xS;generalize upd H lc _=H2 at s2 k2 ⊢;have nM:=hb.same s2;have ZR:=s2 _ _ h1;refine ⟨lc,zr rfl ⟨aG.of k2,zr rfl (az (by simp) ?_)⟩⟩;have Z3:dI ((rep aa.length f).map oV) (s0:Int)=some (V.int y1):=by rw [xq (we SE),WW];rfl
  refine (zr rfl (zr rfl (bw ZR Z3 (zr rfl (az rfl (zr rfl (zr rfl (bw ZR Z3 (zr rfl (aH rfl rfl (zr rfl (cY (λc=>absurd c (by omega)) (λc=>?_)))))))))))));refine (zr rfl (bM nM.book rfl ⟨tm,rfl,⟨_,bq.of nM.meets⟩,?_⟩));refine (let W29:IV:=λi σ H4=>(∃ v4 v5 v6 v7 v8 v9,σ=[some (.ref b),some (.ref lt),some (.ref l),some (.int (s0:Int)),some (.int a0),some (.int (w0:Int)),some (.int z0),v4,v5,v6,v7,v8,v9])/\au H H4;ud (K:=K) (a:=tm) (xs:=ps.map λa=>V.ref a.1) W29)
   ⟨⟨_,_,_,_,_,_,rfl⟩,s2⟩ (λi σ H4 _ h4=>bq.of ((hb.same h4.2).meets)) ?_ ?_
  ·rintro i y σ H4 hy ⟨⟨v4,v5,v6,v7,v8,v9,rfl⟩,oB⟩;obtain ⟨r,vC,rfl⟩:=xz hy;have rm:=zB vC;obtain ⟨a1,a2,a3,a4,a5,_⟩:=gd.at rm;have eV:=(hb.same oB).rows r rm;have z1:(r.2.lo.toNat:Int)=r.2.lo:=yS a1;have z2:(r.2.hi.toNat:Int)=r.2.hi:=yS (by omega);have gl:r.2.lo.toNat < aa.length:=by omega
   have ol:r.2.hi.toNat < aa.length:=by omega
   have ck:∀ x∈two r.2,(!(below (f x.g) x.t) || bX (f x.o) x.t)=true:=λx hx=>xD.mp cl x (by
    unfold aV;exact List.mem_flatMap.mpr ⟨r.2,zQ.mpr ⟨r,rm,rfl⟩,hx⟩)
   refine (Kq eV ?_);refine (zr rfl (zr rfl ⟨by show 2<=sizeLine;omega,λt1 kU=>(zr rfl (zr rfl ⟨by show 2<=sizeLine;omega,λt2 lE=>⟨by show 2<=sizeLine;omega,λll vE=>⟨ll,rfl,⟨_,aG.of xS⟩,?_⟩⟩⟩))⟩));have Rf:=((xU (o:=HO.tup [.int r.2.lo,.int r.2.hi]) kU).trans (xU (o:=HO.tup [.int r.2.hi,.int r.2.lo]) lE)).trans (xU (o:=HO.lst [.ref t1,.ref t2]) vE);have h5:=(oB.trans Rf) _ _ h1;have q1:=(xU (o:=HO.lst [.ref t1,.ref t2]) vE) t1 _ ((xU (o:=HO.tup [.int r.2.hi,.int r.2.lo]) lE) t1 _ (xS (H:=H4) (a:=t1) (o:=HO.tup [.int r.2.lo,.int r.2.hi])));have q2:=(xU (o:=HO.lst [.ref t1,.ref t2]) vE) t2 _ (xS (a:=t2) (o:=HO.tup [.int r.2.hi,.int r.2.lo]));generalize eH:upd (upd (upd H4 t1 (HO.tup [.int r.2.lo,.int r.2.hi])) t2 (HO.tup [.int r.2.hi,.int r.2.lo])) ll (HO.lst [.ref t1,.ref t2])=H5 at Rf h5 q1 q2;have Xq:H5 ll=some (.lst [.ref t1,.ref t2]):=by rw [<-eH];exact xS
   refine (let W30:IV:=λj σ H6=>(∃ v8 v9,σ=[some (.ref b),some (.ref lt),some (.ref l),some (.int (s0:Int)),some (.int a0),some (.int (w0:Int)),some (.int z0),some (.int r.2.lo),some (.int r.2.hi),some (.int r.2.t),some (.int r.2.m),v8,v9])/\H6=H5;cF (K:=K) (a:=ll) (xs:=[V.ref t1,V.ref t2]) W30)
    ?_ (λj σ H6 _ h6=>by rw [h6.2];exact aG.of Xq) ?_ ?_
   ·exact ⟨⟨_,_,rfl⟩,rfl⟩
   ·rintro j y σ H6 hy ⟨⟨v8,v9,rfl⟩,rfl⟩;obtain rfl | rfl:j=0\/j=1:=by
     have:j < 2:=(zC.mp hy).1;omega
    ·cases hy;have hg:dI ((rep aa.length f).map oV) r.2.lo=some (oV (f r.2.lo.toNat)):=by rw [<-z1];exact xq (we gl)
     have ho:dI ((rep aa.length f).map oV) r.2.hi=some (oV (f r.2.hi.toNat)):=by rw [<-z2];exact xq (we ol)
     have cc:=ck ⟨r.2.lo.toNat,r.2.hi.toNat,r.2.t⟩ (by unfold two;simp);refine (oO q1 ?_);refine (zr rfl (zr rfl (bw h5 hg (zr rfl ?_))));cases sy:f r.2.lo.toNat with
     | none=>exact az rfl (az rfl ⟨⟨_,_,rfl⟩,rfl⟩)
     | some a=>
      rw [sy] at hg;refine aT rfl (zr rfl (zr rfl (bw h5 hg (zr rfl (aH rfl rfl (zr rfl (cY (λc=>?_) (λc=>⟨⟨_,_,rfl⟩,rfl⟩))))))));have bl:below (f r.2.lo.toNat) r.2.t=true:=aK.mpr ⟨a,sy,c⟩;have up:bX (f r.2.hi.toNat) r.2.t=true:=by
       have Tn:(!(below (f r.2.lo.toNat) r.2.t) || bX (f r.2.hi.toNat) r.2.t)=true:=cc;rw [bl] at Tn;simpa using Tn
      obtain ⟨y3,WV,ly3⟩:=bJ.mp up;rw [WV] at ho;exact (zr rfl (zr rfl (bw h5 ho (zr rfl (az rfl (zr rfl (zr rfl (bw h5 ho (zr rfl (aH rfl rfl (zr rfl (cY (λc2=>absurd c2 (by omega)) (λc2=>⟨⟨_,_,rfl⟩,rfl⟩)))))))))))))
    ·cases hy;have hg:dI ((rep aa.length f).map oV) r.2.hi=some (oV (f r.2.hi.toNat)):=by rw [<-z2];exact xq (we ol)
     have ho:dI ((rep aa.length f).map oV) r.2.lo=some (oV (f r.2.lo.toNat)):=by rw [<-z1];exact xq (we gl)
     have cc:=ck ⟨r.2.hi.toNat,r.2.lo.toNat,r.2.t⟩ (by unfold two;simp);refine (oO q2 ?_);refine (zr rfl (zr rfl (bw h5 hg (zr rfl ?_))));cases sy:f r.2.hi.toNat with
     | none=>exact az rfl (az rfl ⟨⟨_,_,rfl⟩,rfl⟩)
     | some a=>
      rw [sy] at hg;refine aT rfl (zr rfl (zr rfl (bw h5 hg (zr rfl (aH rfl rfl (zr rfl (cY (λc=>?_) (λc=>⟨⟨_,_,rfl⟩,rfl⟩))))))));have bl:below (f r.2.hi.toNat) r.2.t=true:=aK.mpr ⟨a,sy,c⟩;have up:bX (f r.2.lo.toNat) r.2.t=true:=by
       have Tn:(!(below (f r.2.hi.toNat) r.2.t) || bX (f r.2.lo.toNat) r.2.t)=true:=cc;rw [bl] at Tn;simpa using Tn
      obtain ⟨y3,WV,ly3⟩:=bJ.mp up;rw [WV] at ho;exact (zr rfl (zr rfl (bw h5 ho (zr rfl (az rfl (zr rfl (zr rfl (bw h5 ho (zr rfl (aH rfl rfl (zr rfl (cY (λc2=>absurd c2 (by omega)) (λc2=>⟨⟨_,_,rfl⟩,rfl⟩)))))))))))))
   ·rintro σ H6 ⟨⟨v8,v9,rfl⟩,rfl⟩;exact ⟨⟨_,_,_,_,_,_,rfl⟩,oB.trans Rf⟩
  ·rintro σ H4 ⟨⟨v4,v5,v6,v7,v8,v9,rfl⟩,oB⟩;have h4:=oB _ _ h1;have Tt:dI ((rep aa.length f).map oV) (w0:Int)=some (oV (f w0)):=xq (we W0);cases ew:f w0 with
   | none=>
    rw [ew] at Tt;exact (zr rfl (zr rfl (bw h4 Tt (zr rfl (aT rfl (q _ oB))))))
   | some y2=>
    rw [ew] at Tt YD;have ny:¬ y2<=z0:=of_decide_eq_false YD;have:=q _ oB;rw [<-decide_eq_true (show z0 < y2 by omega)] at this;exact (zr rfl (zr rfl (bw h4 Tt (zr rfl (az rfl (zr rfl (zr rfl (bw h4 Tt (zr rfl (aH rfl rfl this))))))))))
theorem Ee:aA ["_law_book_here", "_law_sender", "_law_since", "_law_wishes_here", "_law_times_here", "_law_k", "_law_walker", "_law_last"] ["_law_book_here", "_law_sender", "_law_since", "_law_wishes_here"] (aq qK):=L2.bf
theorem Gm (T:Tx K mg a ak ai ah)(B:aS mg base):aO P w K mg base bZ 2 a.AH a.BE ["_law_book_here", "_law_sender", "_law_since", "_law_wishes_here"] (uP):=by
 have HH:=Gh P w base T B;refine T.Bc.ok Ee (λvs H Q E h=>?_) (λbI A outer s H vs Q E hr h=>?_)
 ·obtain ⟨_,_,_,_,_,_,_,_,_,rfl,_⟩:=h;rfl
 ·have nd:=Ee.nd;have hu:=hr.units;obtain ⟨b,k,a0,lw,aa,tr,tm,ps,ws,rfl,hb,gd,u0,hk,wa,w4,q1,q2⟩:=h;refine bT ?_;intro Y
  let B0:Bk Y (nb (aj qK) 1):=⟨_,(xP (xp (xt (@PW.pt _ _ _ (wl (b9 (cH (xc (xb rfl) (pv 4) (pv 6) (λ_ _=>rfl)))) (wc (xo eU (xc (xb rfl) (pv 4) (pv 6) (λ_ _=>rfl)) (pv 7) (aB _))))) (xP (xp (xh (pv 5)))) xk)))⟩
  let B1:Bk Y ((aj qK).drop 1):=⟨_,(xP (xl (wF PassesOwn.never rfl (ir rfl rfl T.bV (xO (xQ (pv 3) xY rfl))) (xw (n:=2) rfl rfl (xV (xW (i:=5) nd rfl rfl) (xV (xw (n:=2) rfl rfl (xV (xW (i:=6) nd rfl rfl) (xV (xW (i:=7) nd rfl rfl) xv))) xv))) B0.ps) (xp (xh cG))))⟩
  refine ⟨_,(xP (xl (xn (i:=4) nd rfl rfl (xZ HH (hr.mono (by decide)) rfl T.G5 T.Hb T.Hh .nil av (xO (xQ (pv 0) (xQ (pv 1) (xQ (pv 2) xY rfl) rfl) rfl)))) B1.bl)),?_⟩;have line:=bE;refine (zr rfl (zr rfl (zr rfl (vI b k a0 aa tr tm ps ⟨rfl,hk,hb,by omega,gd,λl1 H1 _ s1 k1=>?_⟩))));have V1:=wa.same s1;refine (zr rfl ⟨lw,rfl,⟨_,aG.of V1.1⟩,?_⟩);refine (let W31:IV:=λi σ H5=>(∃ v5 v6 v7,σ=[some (.ref b),some (.int (k:Int)),some (.int a0),some (.ref lw),some (.ref l1),v5,v6,v7])/\au H1 H5/\∀ j,j < i->∀ x,(wq ws)[j]?=some x->bX (fwd (ps.map (·.2)) (aE k a0) x.1) x.2=true;fV (K:=K) (a:=lw) (xs:=ws.map λa=>V.ref a.1) W31 ⟨⟨_,_,_,rfl⟩,au.refl _,(λj z=>absurd z (zd _))⟩ ?_ ?_ ?_)
  ·rintro i σ H5 _ ⟨_,s5,_⟩;exact aG.of (s5 _ _ V1.1)
  ·rintro i v q0 σ H5 hv hq ⟨⟨v5,v6,v7,rfl⟩,s5,old⟩;obtain ⟨x,hx,rfl⟩:=xz hv;have Rl:(wq ws)[i]?=some x.2:=by unfold wq;rw [zD,hx];rfl
   have s6:=s5.trans (xU (o:=HO.tup [V.int (i:Int),V.ref x.1]) hq);have kq:upd H5 q0 (HO.tup [V.int (i:Int),V.ref x.1]) q0=some (.tup [V.int (i:Int),V.ref x.1]):=xS;generalize upd H5 q0 (HO.tup [V.int (i:Int),V.ref x.1])=H6 at s6 kq ⊢;obtain ⟨kx,lx⟩:=(V1.same s6).2 x (zB hx);have k6:=s6 _ _ k1;refine ⟨q0,zr rfl ⟨bq.of kq,rfl,kT rfl (kT rfl (oO kx ⟨rfl,?_⟩))⟩⟩;refine (zr rfl (zr rfl (bw k6 (xq (we lx)) (zr rfl ?_))));cases e:fwd (ps.map (·.2)) (aE k a0) x.2.1 with
   | none=>exact aT rfl (aT rfl (zr rfl (q1 i ⟨⟨x.2,Rl,by rw [e];rfl⟩,old⟩ _ (s1.trans s6))))
   | some y=>
    refine az rfl (zr rfl (zr rfl (bw k6 (by rw [xq (we lx),e];rfl) (zr rfl (aH rfl rfl (zr rfl ?_))))));by_cases c:x.2.2 < y
    ·exact aT (decide_eq_true c) (zr rfl (q1 i ⟨⟨x.2,Rl,by rw [e];exact decide_eq_false (by omega)⟩,old⟩ _ (s1.trans s6)))
    ·refine az (decide_eq_false c) ⟨⟨_,_,_,rfl⟩,s6,λj hj z hz=>?_⟩;by_cases ej:j=i
     ·subst ej;rw [Rl] at hz;cases hz;rw [e];exact decide_eq_true (by omega)
     ·exact old j (by omega) z hz
  ·rintro σ H5 ⟨⟨v5,v6,v7,rfl⟩,s5,all⟩;exact q2 (λj x hx=>all j (by rw [zA,<- qC];exact (zC.mp hx).1) x hx) _ (s1.trans s5)
theorem Ec:aA ["_law_book_here", "_law_sender", "_law_since", "_law_wishes_here", "_law_told", "_law_never_here", "_law_times_here", "_law_prices"] ["_law_book_here", "_law_sender", "_law_since", "_law_wishes_here", "_law_told"] (aq wC):=L2.bf
theorem Gj (T:Tx K mg a ak ai ah)(B:aS mg base):aO P w K mg base bZ 3 a.AF a.BC ["_law_book_here", "_law_sender", "_law_since", "_law_wishes_here", "_law_told"] (rF):=by
 have AK:=Cs P w base T B;have Fe:=FP P w base T B;have EU:=El P w base T B;have GF:=FM P w base T B;have GG:=FN P w base T B;have IP:=G1 P w base T B;have HR:=Gn P w base T B;have IR:=G3 P w base T B;have HQ:=Gm P w base T B;refine T.Ba.ok Ec (λvs H Q E h=>?_) (λbI A outer s H vs Q E hr h=>?_)
 ·obtain ⟨_,_,_,_,_,_,_,_,_,_,rfl,_⟩:=h;rfl
 ·have nd:=Ec.nd;have hu:=hr.units;obtain ⟨b,k,a0,lw,t,aa,tr,tm,ps,ws,rfl,hb,gd,r1,r8,hk,OV,OU,wa,lo,w1,w4,told,q⟩:=h;refine bT ?_;intro Y
  let B0:Bk Y ((aj wC).drop 8):=⟨_,(xP (xp (xh (dW qH (xc (xb rfl) (xc (xb rfl) (xc (xb rfl) (pv 7) (xZ Fe (hr.mono (by decide)) rfl T.GP T.GS T.GV .nil av (xO (xQ (pv 0) (xQ (pv 2) xY rfl) rfl))) (λ_ _=>rfl)) (pv 1) (λ_ _=>rfl)) (jX gE xR) (λ_ _=>rfl)) (xg (xf rfl) (by rfl) T.aU PySem.boot_len (xO (xQ (xc (xi rfl) (pv 4) xR (λ_ _=>rfl)) xY rfl))) (aB _)))))⟩
  let B1:Bk Y ((aj wC).drop 7):=⟨_,(xP (xl (xt (wJ (wE (xZ HR (hr.mono (by decide)) rfl T.G8 T.He T.Hk .nil av (xO (xQ (pv 0) (xQ (pv 7) xY rfl) rfl))))) (xP (xp (xh wV))) xk) B0.bl))⟩
  let B2:Bk Y ((aj wC).drop 6):=⟨_,(xP (xl (xt (@PW.pt _ _ _ (wl (wJ (wE (xZ GG (hr.mono (by decide)) rfl T.Gs T.Gw T.Gz .nil av (xO (xQ (pv 0) (xQ (pv 3) (xQ (pv 7) xY rfl) rfl) rfl))))) (wc (wJ (wE (xZ IP (hr.mono (by decide)) rfl T.Ii T.Iq T.IA .nil av (xO (xQ (pv 0) (xQ (pv 3) (xQ (pv 7) xY rfl) rfl) rfl)))))))) (xP (xp (xh wV))) xk) B1.bl))⟩
  let B3:Bk Y ((aj wC).drop 4):=⟨_,(xP (xl (xt (@PW.pt _ _ _ (wl (xo eS (xc (xi rfl) (pv 4) xR (λ_ _=>rfl)) jY (aB _)) (wc (wJ (wE (xZ GF (hr.mono (by decide)) rfl T.Gr T.Gv T.Gy .nil av (xO (xQ (pv 6) (xQ (pv 3) xY rfl) rfl)))))))) (xP (xp (xh wV))) xk) (xl (xn (i:=7) nd rfl rfl (xc (xi rfl) (pv 4) xR (λ_ _=>rfl))) B2.bl)))⟩
  let B4:Bk Y ((aj wC).drop 3):=⟨_,(xP (xl (xn (i:=6) nd rfl rfl (xZ EU (hr.mono (by decide)) rfl T.EJ T.EM T.EQ .nil av (xO (xQ (pv 0) (xQ (pv 1) (xQ (pv 2) (xQ (xc (xi rfl) (pv 4) xR (λ_ _=>rfl)) xY rfl) rfl) rfl) rfl)))) B3.bl))⟩
  let B5:Bk Y ((nb (aj wC) 2).drop 1):=⟨_,(xP (xp (xh (xZ IR (hr.mono (by decide)) rfl T.Ik T.Iv T.ID .nil av (xO (xQ (pv 0) (xQ (wB (xO (xQ (pv 1) (xQ (pv 2) (xQ (xc (xi rfl) (xc (xb rfl) (pv 3) (pv 5) (λ_ _=>rfl)) xR (λ_ _=>rfl)) (xQ (xc (xi rfl) (xc (xb rfl) (pv 3) (pv 5) (λ_ _=>rfl)) xR (λ_ _=>rfl)) xY rfl) rfl) rfl) rfl))) (xQ (xc (xi rfl) (pv 4) xR (λ_ _=>rfl)) xY rfl) rfl) rfl))))))⟩
  let B6:Bk Y (nb (aj wC) 2):=⟨_,(xP (xl (xt (@PW.pt _ _ _ (wl (xo eS (xc (xi rfl) (pv 4) xR (λ_ _=>rfl)) jY (aB _)) (wl (wJ (wE (xZ AK (hr.mono (by decide)) rfl T.Cb T.Cc T.Cd .nil av (xO (xQ (xc (xi rfl) (pv 4) xR (λ_ _=>rfl)) xY rfl))))) (wc (xo eS (xc (xi rfl) (pv 4) xR (λ_ _=>rfl)) (pv 5) (aB _)))))) (xP (xp (xh wV))) xk) B5.bl))⟩
  let B7:Bk Y ((aj wC).drop 1):=⟨_,(xP (xl (xn (i:=5) nd rfl rfl (xZ HQ (hr.mono (by decide)) rfl T.G7 T.Hd T.Hj .nil av (xO (xQ (pv 0) (xQ (pv 1) (xQ (pv 2) (xQ (pv 3) xY rfl) rfl) rfl) rfl)))) (xl (xt (b9 (fU (pv 5))) B6.ps xk) B4.bl)))⟩
  refine ⟨_,(xP (xl (xt (@PW.pt _ _ _ (wl (wJ (wE (xg (xy) (by rfl) T.aI zR (xO (xQ (pv 4) (xQ (wY (v:=V.ty "tuple") rfl T.d9 yB rfl) xY rfl) rfl))))) (wl (xo eS (xg (xf rfl) (by rfl) T.aU PySem.boot_len (xO (xQ (pv 4) xY rfl))) xR (aB _)) (wc (wJ (wE (xg (n6) (by rfl) T.aI zR (xO (xQ (xc (xi rfl) (pv 4) xR (λ_ _=>rfl)) (xQ (wY (v:=V.ty "str") rfl T.Tq PyProof.Rows.boot_str rfl) xY rfl) rfl))))))))) (xP (xp (xh wV))) xk) B7.bl)),?_⟩;have line:=bE;have eK:=qC ws;have LD:=wa.bound;have Ow:=gd.len;have nm:(ps.map (·.2)).length=ps.length:=zA _;rcases told with ⟨i,l1,kt,nv,k1⟩ | ⟨l1,lp,Tl,h,P,kt,sv,tt,pr,dp,len⟩
  ·refine (zr rfl ⟨_, "tuple", "tuple", rfl,fO kt,.inr (.inr (.inr rfl)),zr rfl (az rfl (zr rfl ⟨t,zr rfl ⟨.inr (bq.of kt),rfl,zr rfl (az rfl (zr rfl (bM kt rfl ⟨_, "str", rfl,rfl,zr rfl (az rfl ?_)⟩)))⟩⟩))⟩);refine (zr rfl (zr rfl (zr rfl (zr rfl (OP b k a0 lw aa tr tm ps ws ⟨rfl,hb,gd,by omega,hk,wa,w4,λi' Wx H3 s3=>?_,λsv'=>absurd sv' (mh nv)⟩)))));obtain rfl:=rX nv Wx;have V0:=wa.same s3;have P4:=s3 _ _ kt;obtain ⟨⟨y,hy,ey⟩,_⟩:=id nv;obtain ⟨x,hx,rfl⟩:∃ x,ws[i]?=some x/\x.2=y:=by
    unfold wq at hy;rw [zD] at hy;cases e:ws[i]? with
    | none=>rw [e] at hy;cases hy
    | some x=>rw [e] at hy;exact ⟨x,rfl,Option.some.inj hy⟩
   have mx:=zB hx;obtain ⟨kx,lx⟩:=V0.2 x mx;refine (zr rfl (zr rfl (aT rfl ?_)));refine (zr rfl (bM P4 rfl ⟨rfl,zr rfl (az rfl (zr rfl (bM P4 rfl ⟨_, "int", rfl,rfl,zr rfl (az rfl (zr rfl (bM P4 rfl (zr rfl ⟨rfl,zr rfl (az (by simp) ?_)⟩))))⟩)))⟩));refine (zr rfl (zr rfl (zr rfl (zr rfl (zr rfl (bw V0.1 (xq (by rw [zD,hx];rfl)) (bM kx rfl (zr rfl (zr rfl (bw V0.1 (xq (by rw [zD,hx];rfl)) (bM kx rfl ⟨by show 4<=sizeLine;omega,λlt cN=>?_⟩)))))))))));have s4:=xU (o:=HO.tup [V.int (k:Int),V.int a0,V.int (x.2.1:Int),V.int x.2.2]) cN;have k4:upd H3 lt (HO.tup [V.int (k:Int),V.int a0,V.int (x.2.1:Int),V.int x.2.2]) lt=some (.tup [V.int (k:Int),V.int a0,V.int (x.2.1:Int),V.int x.2.2]):=xS;generalize upd H3 lt (HO.tup [V.int (k:Int),V.int a0,V.int (x.2.1:Int),V.int x.2.2])=H4 at s4 k4 ⊢;exact (zr rfl (bM (s4 _ _ P4) rfl (X8 b lt l1 (fwd (ps.map (·.2)) (aE k a0)) k x.2.1 a0 x.2.2 aa tr tm ps ⟨rfl,(hb.same s3).same s4,by omega,gd,⟨k4,hk,lx,OV,OU,lo x mx⟩,s4 _ _ (s3 _ _ k1),sS gd ey,λH7 s7=>q H7 ((s3.trans s4).trans s7)⟩)))
  ·refine (zr rfl ⟨_, "tuple", "tuple", rfl,fO kt,.inr (.inr (.inr rfl)),zr rfl (az rfl (zr rfl ⟨t,zr rfl ⟨.inr (bq.of kt),rfl,zr rfl (az rfl (zr rfl (bM kt rfl ⟨_, "str", rfl,rfl,zr rfl (az rfl ?_)⟩)))⟩⟩))⟩);refine (zr rfl (zr rfl (zr rfl (zr rfl (OP b k a0 lw aa tr tm ps ws ⟨rfl,hb,gd,by omega,hk,wa,w4,λi' Wx=>absurd sv (mh Wx),λ_ H3 s3=>?_⟩)))));have P4:=s3 _ _ kt;refine (zr rfl (zr rfl (az rfl ?_)));refine (zr rfl (zr rfl (zr rfl (zr rfl (bM P4 rfl ⟨b,k,a0,l1,aa,tr,tm,ps,Tl,h,rfl,hb.same s3,gd,by omega,hk,s3 _ _ tt.top,(λx hx=>s3 _ _ (tt.row x hx)),tt.tr.YF,λl2 H4 s4 k4=>?_⟩)))));have Si:=s4 _ _ P4;refine (zr rfl (bM Si rfl ⟨rfl,zr rfl (az rfl (zr rfl (zr rfl ⟨l2,lw,aa.length,h,ws,rfl,k4,(wa.same s3).same s4,w4,tt.sv,λH5 s5=>(zr rfl (az rfl ?_))⟩)))⟩));have Wl:=(s3.trans s4).trans s5;have fr:=dp.LX gd LD;rw [nm] at pr;have cx:dQ H b lw lp aa tr tm ps ws P:=⟨hb,gd,r1,by omega,wa,w1,w4,pr⟩;have Mj:=cx.same Wl;refine (zr rfl (bM (Wl _ _ kt) rfl ?_));refine (zr rfl (zr rfl (zr rfl (OP b lw lp aa tr tm ps ws P ⟨rfl,Mj,λbb H6 s6 iff=>?_⟩))));obtain rfl:=iff.mpr (rW (by rw [nm];exact pr) fr);have qd:=Mj.same s6;refine (zr rfl (az rfl (zr rfl (zr rfl (zr rfl (OP b lw lp aa tr tm ps ws P ⟨rfl,qd,λbb H7 s7 iff=>?_⟩))))));obtain rfl:=iff.mpr (NB fr);have qb:=qd.same s7;refine (zr rfl (az rfl (zr rfl (zr rfl (OP b lw lp aa tr tm ps ws P ⟨rfl,qb,λbb H8 s8 iff=>?_⟩)))));obtain rfl:=iff.mpr ⟨by rw [<-nm];exact Lx fr,LO fr⟩;have US:=qb.same s8;have Wj:=(s6.trans s7).trans s8;refine (zr rfl (az rfl ?_));refine (zr rfl (zr rfl (zr rfl (UQ b a0 aa tr tm ps ⟨rfl,US.bk,by omega,λH9 s9=>?_⟩))));have Ob:=US.same s9;have cl:=cZ (ps.map (·.2)) a0;rw [nm] at cl;have p0:=yM ws.length;obtain ⟨A0,B0,S7,S6,r6,Ox,Rk,V3⟩:=Ob.pr.get cl hk;have Wk:=(Wl.trans Wj).trans s9;have last:(B0.2.map V.int)[2 ^ ws.length - 1]?=some (V.int (bg (aD P) (cnt (ps.map (·.2)) a0) k (2 ^ ws.length - 1))):=by
    rw [<-V3,zD,zV,zF (by omega)];rfl
   refine (bw Ob.pr.top (xq (by rw [zD,S7];rfl)) (zr rfl (bw (Ob.pr.str A0 r6) (xq (by rw [zD,S6];rfl)) (zr rfl (bw (Ob.pr.row A0 r6 B0 Ox) (ja (n:=2 ^ ws.length - 1) (by rw [zA,Rk];omega) last) ?_)))));refine (zr rfl (bM (Wk _ _ kt) rfl ⟨l1,zr rfl ⟨.inl (aG.of (Wk _ _ tt.top)),rfl,?_⟩⟩));rw [zA,len,decide_eq_true rfl];exact q _ Wk
theorem DN:aA ["_law_thing"] ["_law_thing"] (aq wK):=L2.bf
theorem DG (T:Tx K mg a ak ai ah)(B:aS mg base):∀ n:Nat,aO P w K mg base bZ (n + 1) a.Al a.AL ["_law_thing"] (gG n)
| 0=>⟨λ_ _ _ _ h=>(lX h).elim,λ_ _ _ _ _ _ _ _ _ _ _ _ _ h=>(lX h).elim⟩
| n + 1=>by
 have Ct:=DG T B n;refine T.AQ.ok DN (λvs H Q E h=>?_) (λbI A outer s H vs Q E hr h=>?_)
 ·obtain ⟨x,_,rfl,_⟩:=h;rfl
 ·have nd:=DN.nd;have hu:=hr.units;obtain ⟨x,pp,rfl,hp,dx,q⟩:=h;refine bT ?_;intro Y
  let B0:Bk Y (nb (aj wK) 1):=⟨_,(xP (xp (xh (fT (dH) (by rfl) T.d9 yB (xO (xQ (wu (own:=["_law_one"]) (caps:=[]) rfl (show aM ["_law_one"] [] ["_law_thing"] (aq wK) _ from L2.i6) (fz rfl (pv 0)) (λ_ _ _ _=>(xW (i:=0) (show List.Nodup (["_law_one"]:List Str) from by decide +kernel) rfl rfl)) (λ_ _ _ _=>cA) (λ_ _ _ _=>(xZ Ct (hr.mono (by omega)) rfl T.C4 T.C5 T.C6 .nil av (xO (xQ (pv 0) xY rfl))))) xY rfl))))))⟩
  let B1:Bk Y ((aj wK).drop 1):=⟨_,(xP (xl (xt (wE (xg (xy) (by rfl) T.aI zR (xO (xQ (pv 0) (xQ (wY (v:=V.ty "tuple") rfl T.d9 yB rfl) xY rfl) rfl)))) B0.ps xk) (xp (xh (pv 0)))))⟩
  let B2:Bk Y (nb (aj wK) 0):=⟨_,(xP (xp (xh (wu (own:=["_law_one"]) (caps:=[]) rfl (show aM ["_law_one"] [] ["_law_thing"] (aq wK) _ from L2.i6) (wP rfl (pv 0)) (λ_ _ _ _=>(xW (i:=0) (show List.Nodup (["_law_one"]:List Str) from by decide +kernel) rfl rfl)) (λ_ _ _ _=>cA) (λ_ _ _ _=>(xZ Ct (hr.mono (by omega)) rfl T.C4 T.C5 T.C6 .nil av (xO (xQ (pv 0) xY rfl))))))))⟩
  refine ⟨_,(xP (xl (xt (wE (xg (xy) (by rfl) T.aI zR (xO (xQ (pv 0) (xQ (wY (v:=V.ty "list") rfl T.fJ yH rfl) xY rfl) rfl)))) B2.ps xk) B1.bl)),?_⟩;have line:=bE;rcases dx with ⟨i,rfl⟩ | ⟨z,rfl⟩ | rfl | ⟨a1,xs,rfl,Qu | Qu,l1,dy⟩
  ·exact (zr rfl ⟨_, "int", "list", rfl,rfl,.inr (.inr (.inl rfl)),zr rfl (az rfl (zr rfl ⟨_, "int", "tuple", rfl,rfl,.inr (.inr (.inr rfl)),zr rfl (az rfl (zr rfl (q _ H (au.refl _) (.inl ⟨rfl,rfl⟩))))⟩))⟩)
  ·exact (zr rfl ⟨_, "str", "list", rfl,rfl,.inr (.inr (.inl rfl)),zr rfl (az rfl (zr rfl ⟨_, "str", "tuple", rfl,rfl,.inr (.inr (.inr rfl)),zr rfl (az rfl (zr rfl (q _ H (au.refl _) (.inl ⟨rfl,rfl⟩))))⟩))⟩)
  ·exact (zr rfl ⟨_, "NoneType", "list", rfl,rfl,.inr (.inr (.inl rfl)),zr rfl (az rfl (zr rfl ⟨_, "NoneType", "tuple", rfl,rfl,.inr (.inr (.inr rfl)),zr rfl (az rfl (zr rfl (q _ H (au.refl _) (.inl ⟨rfl,rfl⟩))))⟩))⟩)
  ·have k1:=(bB.mp Qu).2;refine (zr rfl ⟨_, "list", "list", rfl,fQ k1,.inr (.inr (.inl rfl)),zr rfl (aT rfl ?_)⟩);refine (zr rfl ⟨a1,rfl,⟨_,aG.of k1⟩,?_⟩);refine (let W32:IC:=λi τ acc H5=>(∃ t0,τ=[t0])/\acc.length=i/\au H H5/\∀ (j:Nat) x y,xs[j]?=some x->acc[j]?=some y->fN (bW pp H5) n x y;cT (K:=K) (a:=a1) (xs:=xs) W32 ⟨⟨_,rfl⟩,rfl,au.refl _,(λj x y _ h=>by cases h)⟩ (by omega) ?_ ?_ ?_)
   ·rintro i τ acc H5 ⟨_,e,s5,_⟩;exact ⟨by omega,aG.of (s5 _ _ k1)⟩
   ·rintro i v τ acc H5 C hv ⟨⟨t0,rfl⟩,e,s5,old⟩ hC;refine (zr rfl ⟨v,pp,rfl,(λz=>hp (s5.free z)),(dy v (zB hv)).same (au.bW s5),λy H6 s6 cp=>?_⟩);refine hC _ _ _ ⟨⟨_,rfl⟩,by rw [zN,e];rfl,s5.trans s6,λj u w hu hw=>?_⟩;rcases dY hw with ⟨_,k⟩ | ⟨rfl,rfl⟩
    ·exact (old j u w hu k).same (au.bW s6)
    ·rw [e,hv] at hu;cases hu;exact cp
   ·rintro τ acc H5 ⟨⟨t0,rfl⟩,e,s5,old⟩ lc kW;have s6:=xU (o:=HO.lst acc) kW;have np:lc≠pp:=λz=>hp (by rw [<-z];exact s5.free kW);exact q _ _ (s5.trans s6) (.inr ⟨a1,lc,xs,acc,rfl,rfl,.inl ⟨bB.mpr ⟨(bB.mp Qu).1,s6 _ _ (s5 _ _ k1)⟩,bB.mpr ⟨np,xS⟩⟩,e.symm,λi x y h1 h2=>(old i x y h1 h2).same (au.bW s6)⟩)
  ·have k1:=(bB.mp Qu).2;refine (zr rfl ⟨_, "tuple", "list", rfl,fO k1,.inr (.inr (.inl rfl)),zr rfl (az rfl (zr rfl ⟨_, "tuple", "tuple", rfl,fO k1,.inr (.inr (.inr rfl)),zr rfl (aT rfl ?_)⟩))⟩);refine (zr rfl ⟨a1,rfl,⟨_,bq.of k1⟩,?_⟩);refine (let W33:IC:=λi τ acc H5=>(∃ t0,τ=[t0])/\acc.length=i/\au H H5/\∀ (j:Nat) x y,xs[j]?=some x->acc[j]?=some y->fN (bW pp H5) n x y;kD (K:=K) (a:=a1) (xs:=xs) W33 ⟨⟨_,rfl⟩,rfl,au.refl _,(λj x y _ h=>by cases h)⟩ (by omega) ?_ ?_ ?_)
   ·rintro i τ acc H5 ⟨_,e,s5,_⟩;exact ⟨by omega,bq.of (s5 _ _ k1)⟩
   ·rintro i v τ acc H5 C hv ⟨⟨t0,rfl⟩,e,s5,old⟩ hC;refine (zr rfl ⟨v,pp,rfl,(λz=>hp (s5.free z)),(dy v (zB hv)).same (au.bW s5),λy H6 s6 cp=>?_⟩);refine hC _ _ _ ⟨⟨_,rfl⟩,by rw [zN,e];rfl,s5.trans s6,λj u w hu hw=>?_⟩;rcases dY hw with ⟨_,k⟩ | ⟨rfl,rfl⟩
    ·exact (old j u w hu k).same (au.bW s6)
    ·rw [e,hv] at hu;cases hu;exact cp
   ·rintro τ acc H5 ⟨⟨t0,rfl⟩,e,s5,old⟩ lc kW;have s6:=xU (o:=HO.lst acc) kW;refine ⟨lc,acc,rfl,.inl ⟨aG.of xS,λl hl=>?_⟩⟩;have s7:=s6.trans (xU (o:=HO.tup acc) hl);have np:l≠pp:=λz=>hp (by rw [<-z];exact s5.free (s6.free hl));exact q _ _ (s5.trans s7) (.inr ⟨a1,l,xs,acc,rfl,rfl,.inr ⟨bB.mpr ⟨(bB.mp Qu).1,s7 _ _ (s5 _ _ k1)⟩,bB.mpr ⟨np,xS⟩⟩,e.symm,λi x y h1 h2=>(old i x y h1 h2).same (au.bW s7)⟩)
theorem FO (T:Tx K mg a ak ai ah)(B:aS mg base):aO P w K mg base bZ 6 a.Al a.AL ["_law_thing"] (gG 5):=DG P w base T B 5
theorem JN:aA ["_law_script", "_law_head", "_law_sizes", "_law_book_here", "_law_k", "_law_purse_here", "_law_sender", "_law_since", "_law_wishes_here", "_law_handed", "_law_told", "_law_kept"] ["_law_script"] (aq Cv):=L2.bf
theorem J7 (T:Tx K mg a ak ai ah)(B:aS mg base):aO P w K mg base bZ 7 a.ET a.GW ["_law_script"] (nh K a.tP cu):=by
 have DC:=Gk P w base T B;have Aa:=wS P w base T B;have IQ:=G2 P w base T B;have C3:=EH P w base T B;have Gc:=Jy P w base T B;have GE:=FL P w base T B;have EV:=Gj P w base T B;have Ct:=FO P w base T B;refine T.Fv.ok JN (λvs H Q E h=>?_) (λbI A outer s H vs Q E hr h=>?_)
 ·obtain ⟨_,_,rfl,_⟩:=h;rfl
 ·have nd:=JN.nd;have hu:=hr.units;obtain ⟨sa,ns,rfl,hS,hlen,mt,q⟩:=h;refine bT ?_;intro Y
  let B0:Bk Y ((nb (aj Cv) 3).drop 12):=⟨_,(xP (xp (xt (wJ (wE (xZ EV (hr.mono (by decide)) rfl T.EK T.EN T.ER .nil av (xO (xQ (pv 3) (xQ (pv 6) (xQ (pv 7) (xQ (pv 8) (xQ (xZ Gc (hr.mono (by decide)) rfl T.FR T.FV T.FZ .nil av (xO (xQ (pv 3) (xQ (pv 6) (xQ (pv 7) (xQ (pv 9) xY rfl) rfl) rfl) rfl))) xY rfl) rfl) rfl) rfl) rfl))))) (xP (xp (xh wV))) xk)))⟩
  let B1:Bk Y ((nb (nb (aj Cv) 3) 10).drop 1):=⟨_,(xP (xp (wd xR (fB (xc (xb rfl) (xc (xb rfl) (xc (xi rfl) (pv 10) xR (λ_ _=>rfl)) (jX gE xR) (λ_ _=>rfl)) (pv 6) (λ_ _=>rfl)) (jX gE xR) qI))))⟩
  let B2:Bk Y (nb (nb (aj Cv) 3) 10):=⟨_,(xP (xl (wf (di zU zZ za wL (xc (xi rfl) (pv 10) xR (λ_ _=>rfl)) (xO (xQ (wB (xO (xQ xR (xQ xR xY rfl) rfl))) xY rfl)))) B1.bl))⟩
  let B3:Bk Y ((nb (aj Cv) 3).drop 10):=⟨_,(xP (xl (xt (xo qH (xc (xi rfl) (pv 10) xR (λ_ _=>rfl)) jY (aB _)) B2.ps xk) (xl (wd cG (fB (xc (xi rfl) (pv 10) xR (λ_ _=>rfl)) xR qI)) B0.bl)))⟩
  let B4:Bk Y ((nb (aj Cv) 3).drop 8):=⟨_,(xP (xl (wf (xZ Gc (hr.mono (by decide)) rfl T.FR T.FV T.FZ .nil av (xO (xQ (pv 3) (xQ (pv 6) (xQ (xZ C3 (hr.mono (by decide)) rfl T.DQ T.DR T.DS .nil av (xO (xQ (pv 5) (xQ (pv 3) (xQ xR xY rfl) rfl) rfl))) (xQ (pv 9) xY rfl) rfl) rfl) rfl)))) (xl (xt (xo (PM hu) (pv 10) (pv 11) (aB _)) (xP (xp (xh wV))) xk) B3.bl)))⟩
  let B5:Bk Y ((nb (aj Cv) 3).drop 6):=⟨_,(xP (xl (xt (@PW.pt _ _ _ (wl (wJ (wE (xZ EV (hr.mono (by decide)) rfl T.EK T.EN T.ER .nil av (xO (xQ (pv 3) (xQ (pv 6) (xQ (pv 7) (xQ (pv 8) (xQ (pv 10) xY rfl) rfl) rfl) rfl) rfl))))) (wc (xo (PL hu) (pv 9) (pv 8) (aB _))))) (xP (xp (xh wV))) xk) (xl (xn (i:=11) nd rfl rfl (xZ Ct (hr.mono (by decide)) rfl T.C4 T.C5 T.C6 .nil av (xO (xQ (pv 10) xY rfl)))) B4.bl)))⟩
  let B6:Bk Y ((nb (aj Cv) 3).drop 5):=⟨_,(xP (xl (xn (i:=10) nd rfl rfl (xZ Gc (hr.mono (by decide)) rfl T.FR T.FV T.FZ .nil av (xO (xQ (pv 3) (xQ (pv 6) (xQ (pv 7) (xQ (pv 9) xY rfl) rfl) rfl) rfl)))) B5.bl))⟩
  let B7:Bk Y ((nb (aj Cv) 3).drop 3):=⟨_,(xP (xl (xn (i:=8) nd rfl rfl (xZ GE (hr.mono (by decide)) rfl T.Gq T.Gu T.Gx .nil av (xO (xQ (pv 5) (xQ (pv 3) (xQ (xj xu xR (xj w8 (xZ Aa (hr.mono (by decide)) rfl T.Ab T.Ac T.Ae .nil av (xO (xQ (pv 5) (xQ xR xY rfl) rfl))) xR)) xY rfl) rfl) rfl)))) (xl (xn (i:=9) nd rfl rfl (fT (lJ rfl) (by rfl) T.fJ yH (xO (xQ (pv 8) xY rfl)))) B6.bl)))⟩
  let B8:Bk Y ((nb (aj Cv) 3).drop 2):=⟨_,(xP (xl (xn (i:=7) nd rfl rfl (xZ C3 (hr.mono (by decide)) rfl T.DQ T.DR T.DS .nil av (xO (xQ (pv 5) (xQ (pv 3) (xQ xR xY rfl) rfl) rfl)))) B7.bl))⟩
  let B9:Bk Y ((nb (aj Cv) 3).drop 1):=⟨_,(xP (xl (xn (i:=6) nd rfl rfl (xZ Aa (hr.mono (by decide)) rfl T.Ab T.Ac T.Ae .nil av (xO (xQ (pv 5) (xQ (xg (xf rfl) (by rfl) T.aU PySem.boot_len (xO (xQ (xc (xi rfl) (pv 3) xR (λ_ _=>rfl)) xY rfl))) xY rfl) rfl)))) B8.bl))⟩
  let T3:Bk Y (nb (aj Cv) 3):=⟨_,(xP (xl (xn (i:=5) nd rfl rfl (xZ DC (hr.mono (by decide)) rfl T.Dm T.Do T.Dp .nil av (xO (xQ (pv 0) (xQ (pv 4) xY rfl) rfl)))) B9.bl))⟩
  let Yw:Bk Y ((aj Cv).drop 3):=⟨_,(xP (xl (wF PassesOwn.never rfl (u7 rfl T.bL (xO (xQ xR (xQ (xg (i9 rfl) (by rfl) T.Mt PyProof.Rows.boot_max (xO (xQ xR (xQ (xg (i8 rfl) (by rfl) T.qk ye (xO (xQ xR (xQ (xg (xf rfl) (by rfl) T.aU PySem.boot_len (xO (xQ (pv 0) xY rfl))) xY rfl) rfl))) xY rfl) rfl))) xY rfl) rfl))) (xW (i:=4) nd rfl rfl) T3.ps) (xp (xh wV))))⟩
  let B12:Bk Y ((aj Cv).drop 2):=⟨_,(xP (xl (xn (i:=3) nd rfl rfl (xZ IQ (hr.mono (by decide)) rfl T.Ij T.Ir T.IB .nil av (xO (xQ (xZ DC (hr.mono (by decide)) rfl T.Dm T.Do T.Dp .nil av (xO (xQ (pv 0) (xQ xR xY rfl) rfl))) (xQ (xc (xi rfl) (pv 2) xR (λ_ _=>rfl)) (xQ (xc (xi rfl) (pv 2) xR (λ_ _=>rfl)) xY rfl) rfl) rfl)))) Yw.bl))⟩
  let B13:Bk Y ((aj Cv).drop 1):=⟨_,(xP (xl (xn (i:=2) nd rfl rfl (xc (xb rfl) (wI (xO (xQ (wB (xO (xQ xR (xQ xR xY rfl) rfl))) (xQ (wB (xO (xQ xR (xQ xR xY rfl) rfl))) xY rfl) rfl))) (xj w8 (xZ Aa (hr.mono (by decide)) rfl T.Ab T.Ac T.Ae .nil av (xO (xQ (pv 1) (xQ xR xY rfl) rfl))) xR) (λ_ _=>rfl))) B12.bl))⟩
  refine ⟨_,(xP (xl (xn (i:=1) nd rfl rfl (xZ DC (hr.mono (by decide)) rfl T.Dm T.Do T.Dp .nil av (xO (xQ (pv 0) (xQ xR xY rfl) rfl)))) B13.bl)),?_⟩;have line:=bE;have Mb:(2:Int) ^ 200 > 10000:=by decide
  refine (zr rfl ⟨sa,ns,1,rfl,hS,by omega,λp1 H1 UC Uj s1=>?_⟩);refine ⟨by show 2<=sizeLine;omega,λt1 kU=>⟨by show 2<=sizeLine;omega,λt2 lE=>⟨by show 2<=sizeLine;omega,λl0 LI=>?_⟩⟩⟩;have w1:=xU (o:=HO.tup [V.int 5,V.int 10]) kU;have w2:=xU (o:=HO.tup [V.int 8,V.int 24]) lE;have w3:=xU (o:=HO.lst [V.ref t1,V.ref t2]) LI;have k1:=w3 _ _ (w2 _ _ (xS (H:=H1) (a:=t1) (o:=HO.tup [V.int 5,V.int 10])));have k2:=w3 _ _ (xS (H:=upd H1 t1 (HO.tup [V.int 5,V.int 10])) (a:=t2) (o:=HO.tup [V.int 8,V.int 24]));have k3:upd (upd (upd H1 t1 (HO.tup [V.int 5,V.int 10])) t2 (HO.tup [V.int 8,V.int 24])) l0 (HO.lst [V.ref t1,V.ref t2]) l0=some (.lst [V.ref t1,V.ref t2]):=xS;have Rx:=(w1.trans w2).trans w3;generalize upd (upd (upd H1 t1 (HO.tup [V.int 5,V.int 10])) t2 (HO.tup [V.int 8,V.int 24])) l0 (HO.lst [V.ref t1,V.ref t2])=H2 at Rx k1 k2 k3 ⊢;have n3:l0≠p1:=by
   obtain ⟨_,_,_,e⟩:=Uj;exact Ne.symm (xT (w2 _ _ (w1 _ _ e)) LI)
  refine (zr rfl ⟨p1,8,rfl,by decide,by decide,Uj.same Rx,λd H3 d0 d1 g3=>(aH rfl rfl ⟨⟨by decide,by decide⟩,?_⟩)⟩);have e1:d / 7=0\/d / 7=1:=by omega
  have Ub:au H H3:=λx u e=>g3.1 x u (xT e UC) (Rx _ _ (s1 _ _ e));have Zb:=g3.1 _ _ n3 k3;have tp:=g3.aQ (Uj.same Rx);obtain ⟨ts,wk,m,et,kt,wk1,wk8,m24⟩:∃ ts,∃ wk:Int,∃ m:Nat,dI [V.ref t1,V.ref t2] (d / 7)=some (V.ref ts)/\H3 ts=some (.tup [V.int wk,V.int m])/\1<=wk/\wk<=8/\m<=24:=by
   rcases e1 with e | e <;> rw [e]
   ·exact ⟨t1,5,10,rfl,tp _ _ k1,by decide,by decide,by decide⟩
   ·exact ⟨t2,8,24,rfl,tp _ _ k2,by decide,by decide,by decide⟩
  refine (bw Zb et ?_);refine (zr rfl ⟨sa,ns,0,rfl,Ub.seq hS,by omega,λp0 H4 Zi Uk s4=>?_⟩);have Si:=s4 _ _ kt;refine (zr rfl (bM Si rfl (zr rfl (bM Si rfl ?_))));refine ⟨p0,wk,m,rfl,by omega,by omega,by omega,Uk,λb aa tr tm ps H6 g6 hb Ug rm2 rm9 gd iN=>?_⟩;have sm:au H H6:=λx u e=>g6.1 x u (xT (Ub _ _ e) Zi) (s4 _ _ (Ub _ _ e));have Ri:=mt.cW sm;have XT:=sm.seq hS;clear sm g6 et kt Si tp Zb s4 Zi Uk Ub g3 Uj UC hS mt Rx k1 k2 k3 w1 w2 w3 s1 kU lE LI;refine (zr rfl ⟨sa,zr rfl ⟨.inl XT,kT rfl (kT rfl (kT rfl ⟨⟨by decide,by decide,?_,?_⟩,?_⟩))⟩⟩)
  ·split <;> (try split) <;> omega
  ·rw [zA];split <;> (try split) <;> omega
  refine (let W34:IV:=λi σ H8=>(∃ v4 v5 v6 v7 v8 v9 v10 v11,σ=[some (.ref sa),some (.ref p1),some (.ref ts),some (.ref b),v4,v5,v6,v7,v8,v9,v10,v11])/\cL a.tP H6 H8/\MT a.tP cu jy H8;qD (lo:=3) W34 ⟨⟨_,_,_,_,_,_,_,_,rfl⟩,cL.refl _ _,Ri⟩ ?_ ?_)
  ·rintro i σ H8 hi ⟨⟨v4,v5,v6,v7,v8,v9,v10,v11,rfl⟩,b8,Ut⟩;have i60:i < 90:=by
    rw [zA] at hi
    revert hi
    split <;> (try split) <;> intro h <;> omega
   have ZF:=MT.seq Ri b8 XT;have Zz:=hb.iG Ri b8;have r8:aa.length<=8:=by omega
   have Ul:ps.length<=24:=by omega
   clear hb XT hi;refine (zr rfl (zr rfl ⟨sa,ns,3 + i,by simp,ZF,by omega,λp2 H9 Rn Ui s9=>?_⟩));have UI:=Zz.same s9;refine (zr rfl (zr rfl (bM UI.book rfl ⟨tr,zr rfl ⟨.inr (bq.of UI.aa),p2,zr rfl ⟨by rw [zA];omega,by rw [zA];omega,Ui,λd HA d0 d1 gA=>?_⟩⟩⟩)));rw [zA] at d1;obtain ⟨k,rfl⟩:=zk d0;have hk:k < aa.length:=by omega
   have XO:=UI.aQ (gA.aQ Ui);refine (zr rfl (zr rfl (vI p2 b 0 aa tr tm ps ⟨rfl,.inl rfl,XO,gd,gA.2,λa0 HB OV OU gB=>?_⟩)));have Zy:=XO.aQ (gB.aQ gA.2);refine (zr rfl (zr rfl (zr rfl ⟨p2,8,rfl,by decide,by decide,gB.2,λe HC e0 e1 gC=>?_⟩)));have XN:=Zy.aQ (gC.aQ gB.2);refine (aH rfl rfl ⟨⟨by decide,by decide⟩,aH rfl rfl (vI p2 b _ aa tr tm ps ⟨rfl,by omega,by omega,gC.2,XN,gd,Ug,by omega,λlw ws HD gD hlD nlw wa lo w1 w4'=>?_⟩)⟩);have w4:ws.length<=4:=by omega
   have Tc:=((gA.trans gB).trans gC).trans gD;have Zx:=XN.aQ (gD.aQ gC.2);refine (zr rfl ⟨lw,zr rfl ⟨.inl (aG.of wa.1),λlh UD=>?_⟩⟩);have sE:=xU (o:=HO.lst (ws.map λa=>V.ref a.1)) UD;have TE:gf a.tP cu p2 H8 (upd HD lh (HO.lst (ws.map λa=>V.ref a.1))) b aa tr tm ps lw lh ws:=
    ⟨λc u _ e=>sE _ _ (Tc.1 c u (xT e Rn) (s9 _ _ e)),Rn,Tc.2.new UD,((Ut.cW s9).go Ui Tc).cW sE,Zx.same sE,wa.same sE,⟨xS,λx hx=>(wa.same sE).2 x hx⟩,nlw,Tc.2.ne UD⟩
   generalize upd HD lh (HO.lst (ws.map λa=>V.ref a.1))=HE at TE ⊢;clear sE wa UD Zx Tc gD hlD XN gC Zy gB XO gA Ui UI ZF Zz;have Yg:∀ {H:Hp},gf a.tP cu p2 H8 H b aa tr tm ps lw lh ws->oA H b lh aa tr tm ps ws:=λh=>⟨h.bk,gd,Ug,by omega,h.wh,w4⟩;refine (zr rfl (zr rfl (zr rfl (zr rfl (OP b k a0 lh aa tr tm ps ws ⟨rfl,Yg TE,r8,Ul,w1,hk,OV,OU,lo,TE.mt,λt HF bF mF told=>?_⟩)))));have TF:=TE.but bF mF;refine (zr rfl (zr rfl (zr rfl (zr rfl (zr rfl (LY b k a0 lw t aa tr tm ps ws ⟨rfl,TF.bk,gd,Ug,r8,hk,OV,OU,TF.wa,lo,w1,w4,told.old,λHG sG=>(zr rfl (az rfl ?_))⟩))))));have TG:=TF.same sG;refine ⟨_,rfl,_,rfl,0,lh,lw,_,_,(λ_=>true),true,by decide,rfl,rfl,.inl ⟨aG.of TG.wh.1,aG.of TG.wa.1⟩,by simp,(λi x y h1 h2=>by
    rw [h1] at h2;cases h2;obtain ⟨r,hr,rfl⟩:=xz h1;exact .inl ⟨rfl,⟨_,rfl⟩,rfl⟩),_,rfl,az rfl ?_⟩
   refine (zr rfl ⟨.ref t,p2,rfl,(λz=>by obtain ⟨_,_,_,e⟩:=TG.pu;rw [e] at z;cases z),(uJ told TE.pu TF.pu gd hk r8 w4 (qC ws) TF.wa.bound).same (au.bW sG),λy HI sI cp=>?_⟩);have TI:=TG.same sI;refine (zr rfl (zr rfl (zr rfl (zr rfl (vI p2 b 0 aa tr tm ps ⟨rfl,.inl rfl,TI.bk,gd,TI.pu,λa1 HJ a10 a19 gJ=>?_⟩)))));have TJ:=TI.go gJ;refine (zr rfl (OP b k a1 lh aa tr tm ps ws ⟨rfl,Yg TJ,r8,Ul,w1,hk,a10,a19,lo,TJ.mt,λt' HK bK mK _=>?_⟩));have TK:=TJ.but bK mK;refine (zr rfl (zr rfl ⟨((cp.same (Go.bW gJ)).iG TJ.mt bK).WH (by decide),zr rfl (az rfl ?_)⟩));obtain ⟨s0,x1,l3,xs,kt,f3,k3,Ww,sp⟩:=qW told gd hk (qC ws) TF.wa.bound;have tk:∀ {x:Addr}{xs:List V},HF x=some (.tup xs)->HK x=some (.tup xs):=λe=>jK TJ.mt bK (gJ.aQ TI.pu _ _ (sI _ _ (sG _ _ e)));have lk:∀ {x:Addr}{xs:List V},HE x=none->HF x=some (.lst xs)->HK x=some (.lst xs):=λf e=>cD TJ.mt bK (gJ.1 _ _ (TE.pu.ne f) (sI _ _ (sG _ _ e)));have Uw:=tk kt;have k3K:=lk f3 k3;refine (zr rfl (bM Uw rfl ⟨rfl,zr rfl ?_⟩));refine lD (fun σ H'=>(∃ v11,σ=[some (.ref sa),some (.ref p1),some (.ref ts),some (.ref b),some (.int (3 + (i:Nat))),some (.ref p2),some (.int (k:Int)),some (.int a0),some (.ref lw),some (.ref lh),some (.ref t),v11])/\gf a.tP cu p2 H8 H' b aa tr tm ps lw lh ws/\H' t=some (.tup [.str s0,x1,.ref l3])/\H' l3=some (.lst xs)) ?_ (λc kk=>?_) (λc=>⟨⟨_,rfl⟩,TK,Uw,k3K⟩)
   ·rintro σ H' ⟨⟨v11,rfl⟩,T',kt',Zc⟩;refine (zr rfl (bM kt' rfl ⟨l3,_,_,0,rfl,rfl,Zc,dw (k:=0) Ww,?_⟩));have TO:=T'.put (o:=HO.lst (xs.set 0 V.bD)) TE f3 Zc;generalize upd H' l3 (HO.lst (xs.set 0 V.bD))=HO' at TO ⊢;refine (zr rfl (zr rfl (zr rfl (zr rfl (zr rfl (zr rfl (zr rfl (zr rfl (OP b k a0 lh aa tr tm ps ws ⟨rfl,Yg TO,r8,Ul,w1,hk,OV,OU,lo,TO.mt,λt2 HP bP mP RB=>?_⟩)))))))));have TP:=TO.but bP mP;refine (LY b k a0 lw t2 aa tr tm ps ws ⟨rfl,TP.bk,gd,Ug,r8,hk,OV,OU,TP.wa,lo,w1,w4,RB.old,λHQ sQ=>(zr rfl (az rfl ⟨⟨_,_,_,_,_,_,_,_,rfl⟩,b8.trans (TP.same sQ).rel,(TP.same sQ).mt⟩))⟩)
   ·have es:s0=Str.ofString "tree" := V.str.inj (of_decide_eq_true c);rcases sp with e | ⟨_,lt,Tl,P,rfl,klt,aci,MY,pr,fP,ne3,Uq⟩
    ·exact absurd (e.symm.trans es) nF
    rw [zA] at pr;have p0:=yM ws.length;have Sj:=lk MY klt;refine (zr rfl (bM Uw rfl ⟨.inl ⟨rfl,_,aG.of Sj⟩,by show 2<=sizeLine;omega,λt9 ht9=>?_⟩));have RX:=xU (o:=HO.tup [V.int 0,V.int 0]) ht9;generalize upd HK t9 (HO.tup [V.int 0,V.int 0])=HL at RX ⊢;have TL:=TK.same RX;have P5:=RX _ _ Sj;have TM:=TL.put (o:=HO.lst ((Tl.map λx=>V.ref x.1)++[V.ref t9])) TE MY P5;have tM:bC HL (upd HL lt (HO.lst ((Tl.map λx=>V.ref x.1)++[V.ref t9]))):=bC.set P5;have lM:∀ {x:Addr}{ys:List V},x≠lt->HE x=none->HF x=some (.lst ys)->upd HL lt (HO.lst ((Tl.map λx=>V.ref x.1)++[V.ref t9])) x=some (.lst ys):=λn f e=>by rw [xX n];exact RX _ _ (lk f e)
    have WJ:=tM _ _ (RX _ _ Uw);refine ⟨lt,aH rfl rfl ⟨P5,by rw [zA];omega,?_⟩⟩;generalize upd HL lt (HO.lst ((Tl.map λx=>V.ref x.1)++[V.ref t9]))=HM at TM tM lM WJ ⊢;obtain ⟨A0,B0,S7,S6,r6,Ox,Rk,_⟩:=pr.get (j:=ps.length) (k:=k) (zE _) hk;have O8:=lM ne3 f3 pr.top;have Wc:=lM (Uq A0 r6).1 (fP A0 r6).1 (pr.str A0 r6);have Nm:=lM ((Uq A0 r6).2 B0 Ox) ((fP A0 r6).2 B0 Ox) (pr.row A0 r6 B0 Ox);have n3:l3≠B0.1:=λz=>by
     rw [z,Nm] at O8;have e:=HO.lst.inj (Option.some.inj O8);have:=congrArg (λl=>l[0]?) e;cases hB:B0.2 with
     | nil=>rw [hB] at Rk;simp at Rk;omega
     | cons y ys=>
      cases hP:P with
      | nil=>rw [hP] at r6;cases r6
      | cons u us=>rw [hB,hP] at this;cases this
    have k3M:=lM ne3 f3 k3;refine (zr rfl (bM WJ rfl (zr rfl (bw O8 (ja (n:=ps.length) (by rw [zA,pr.len]) (by rw [zD,S7];rfl)) (zr rfl (bw Wc (xq (by rw [zD,S6];rfl)) (zr rfl ⟨B0.1,_,aH rfl rfl ⟨Nm,sf (by rw [zA,Rk];exact p0),kk _ _ ⟨⟨_,rfl⟩,TM.put TE ((fP A0 r6).2 B0 Ox) Nm,bC.set Nm _ _ WJ,by rw [xX n3];exact k3M⟩⟩⟩)))))))
  ·rintro σ H8 ⟨⟨v4,v5,v6,v7,v8,v9,v10,v11,rfl⟩,b8,Ut⟩;exact q H8
end
theorem all_mk {l:PySem.W.OpenLaw}{w:World}{K:PySem.W.Frag}{h:Heap}{mg:Str->Option Value}{fa Dx DX Es Dv DY CG D0 DW Dt Eo DT E7 Ep E6 DU E8 Jl Em En F8 CT F6 DV CF Cg Er Dq Hm F7 CU Dr E5 F5 E9 Du C7 Ce C8 C9 DZ DA Dz D1 Dy Dw Da J6 tC tP:Addr}(X:K.In h)(G:h.Ns mainGlobals mg)(hfa:mg "law" = some (.ref fa))
  {BD BR Cm BB BS Ay BU BQ Bz Cj BN CN Ck CM BO CO Fa Ch Ci Di AR Dg BP Ax Au Cl By D6 Dh AS Az CL Df CP BA Bf Ao Bg Bh BT BG BF BV BE BC AL GW:FuncData}{ak:Tok}{ai:Tok}{ah:Tok}
  (AG:zH K mainGlobals "_law_purse" = some (some (.ref Dx))) (Bb:aX K "_law_purse" "_law_purse" wv Dx BD)
  (AX:zH K mainGlobals "_law_take" = some (some (.ref DX))) (Bt:aX K "_law_take" "_law_take" qE DX BR)
  (Bo:zH K mainGlobals "_law_far" = some (some (.ref Es))) (BM:aX K "_law_far" "_law_far" Dl Es Cm)
  (AE:zH K mainGlobals "_law_rooms" = some (some (.ref Dv))) (A9:aX K "_law_rooms" "_law_rooms" ww Dv BB)
  (AY:zH K mainGlobals "_law_step" = some (some (.ref DY))) (Bu:aX K "_law_step" "_law_step" qF DY BS)
  (Aj:zH K mainGlobals "_law_meetings" = some (some (.ref CG))) (Aq:aX K "_law_meetings" "_law_meetings" xr CG Ay)
  (A3:zH K mainGlobals "_law_book" = some (some (.ref D0))) (Bw:aX K "_law_book" "_law_book" Cy D0 BU)
  (AW:zH K mainGlobals "_law_time" = some (some (.ref DW))) (Bs:aX K "_law_time" "_law_time" wQ DW BQ)
  (AC:zH K mainGlobals "_law_whole" = some (some (.ref Dt))) (A7:aX K "_law_whole" "_law_whole" Dk Dt Bz)
  (Bl:zH K mainGlobals "is_whole" = some (some (.ref Eo))) (BJ:aX K "is_whole" "is_whole" Ej Eo Cj)
  (AT:zH K mainGlobals "is_within" = some (some (.ref DT))) (Bp:aX K "is_within" "is_within" DO DT BN)
  (BY:zH K mainGlobals "is_time" = some (some (.ref E7))) (Cp:aX K "is_time" "is_time" EY E7 CN)
  (Bm:zH K mainGlobals "is_below" = some (some (.ref Ep))) (BK:aX K "is_below" "is_below" Ek Ep Ck)
  (BX:zH K mainGlobals "is_upto" = some (some (.ref E6))) (Co:aX K "is_upto" "is_upto" EX E6 CM)
  (AU:zH K mainGlobals "is_walker" = some (some (.ref DU))) (Bq:aX K "is_walker" "is_walker" DP DU BO)
  (BZ:zH K mainGlobals "by_time" = some (some (.ref E8))) (Cq:aX K "by_time" "by_time" D4 E8 CO)
  (D2:zH K mainGlobals "ways" = some (some (.ref Jl))) (Eu:aX K "ways" "ways" EW Jl Fa)
  (Bi:zH K mainGlobals "other_at" = some (some (.ref Em))) (BH:aX K "other_at" "other_at" Ei Em Ch)
  (Bj:zH K mainGlobals "lone_row" = some (some (.ref En))) (BI:aX K "lone_row" "lone_row" Dj En Ci)
  (CD:zH K mainGlobals "all_of" = some (some (.ref F8))) (CZ:aX K "all_of" "all_of" FJ F8 Di)
  (Am:zH K mainGlobals "without_wish" = some (some (.ref CT))) (Av:aX K "without_wish" "without_wish" CS CT AR)
  (CB:zH K mainGlobals "splits" = some (some (.ref F6))) (CW:aX K "splits" "splits" EE F6 Dg)
  (AV:zH K mainGlobals "is_letter" = some (some (.ref DV))) (Br:aX K "is_letter" "is_letter" Cw DV BP)
  (Ai:zH K mainGlobals "first_givings" = some (some (.ref CF))) (Ap:aX K "first_givings" "first_givings" wN CF Ax)
  (Ag:zH K mainGlobals "earliest_times" = some (some (.ref Cg))) (Ak:aX K "earliest_times" "earliest_times" Cf Cg Au)
  (Bn:zH K mainGlobals "earliest" = some (some (.ref Er))) (BL:aX K "earliest" "earliest" wt Er Cl)
  (AA:zH K mainGlobals "still_open" = some (some (.ref Dq))) (A5:aX K "still_open" "still_open" wx Dq By)
  (C2:zH K mainGlobals "least" = some (some (.ref Hm))) (DD:aX K "least" "least" C1 Hm D6)
  (CC:zH K mainGlobals "row_of" = some (some (.ref F7))) (CY:aX K "row_of" "row_of" Dd F7 Dh)
  (An:zH K mainGlobals "least_prices" = some (some (.ref CU))) (Aw:aX K "least_prices" "least_prices" wX CU AS)
  (AB:zH K mainGlobals "best_split" = some (some (.ref Dr))) (A6:aX K "best_split" "best_split" CJ Dr Az)
  (BW:zH K mainGlobals "tree_by" = some (some (.ref E5))) (Cn:aX K "tree_by" "tree_by" wH E5 CL)
  (Cz:zH K mainGlobals "spread" = some (some (.ref F5))) (CV:aX K "spread" "spread" Cu F5 Df)
  (Ca:zH K mainGlobals "_law_by" = some (some (.ref E9))) (Cr:aX K "_law_by" "_law_by" D5 E9 CP)
  (AD:zH K mainGlobals "_law_times" = some (some (.ref Du))) (A8:aX K "_law_times" "_law_times" wy Du BA)
  (Ar:zH K mainGlobals "_law_wishes" = some (some (.ref C7))) (AM:aX K "_law_wishes" "_law_wishes" wb C7 Bf)
  (Af:zH K mainGlobals "_law_tree_times" = some (some (.ref Ce))) (Ah:aX K "_law_tree_times" "_law_tree_times" xx Ce Ao)
  (As:zH K mainGlobals "_law_served" = some (some (.ref C8))) (AN:aX K "_law_served" "_law_served" qB C8 Bg)
  (At:zH K mainGlobals "_law_priced" = some (some (.ref C9))) (AO:aX K "_law_priced" "_law_priced" wT C9 Bh)
  (AZ:zH K mainGlobals "_law_outs" = some (some (.ref DZ))) (Bv:aX K "_law_outs" "_law_outs" qG DZ BT)
  (AJ:zH K mainGlobals "_law_gives" = some (some (.ref DA))) (Be:aX K "_law_gives" "_law_gives" CK DA BG)
  (AI:zH K mainGlobals "_law_links" = some (some (.ref Dz))) (Bd:aX K "_law_links" "_law_links" wR Dz BF)
  (A4:zH K mainGlobals "_law_bars" = some (some (.ref D1))) (Bx:aX K "_law_bars" "_law_bars" wG D1 BV)
  (AH:zH K mainGlobals "_law_never" = some (some (.ref Dy))) (Bc:aX K "_law_never" "_law_never" qK Dy BE)
  (AF:zH K mainGlobals "_law_right" = some (some (.ref Dw))) (Ba:aX K "_law_right" "_law_right" wC Dw BC)
  (Al:zH K mainGlobals "_law_copied" = some (some (.ref Da))) (AQ:aX K "_law_copied" "_law_copied" wK Da AL)
  (ET:zH K mainGlobals "law" = some (some (.ref J6))) (Fv:aX K "law" "law" Cv J6 GW)
  (z_all:zH K mainGlobals "all" = some none)
  (z_any:zH K mainGlobals "any" = some none)
  (z_bool:zH K mainGlobals "bool" = some none)
  (z_enumerate:zH K mainGlobals "enumerate" = some none)
  (z_int:zH K mainGlobals "int" = some none)
  (z_isinstance:zH K mainGlobals "isinstance" = some none)
  (z_len:zH K mainGlobals "len" = some none)
  (z_list:zH K mainGlobals "list" = some none)
  (z_max:zH K mainGlobals "max" = some none)
  (z_min:zH K mainGlobals "min" = some none)
  (z_range:zH K mainGlobals "range" = some none)
  (z_reversed:zH K mainGlobals "reversed" = some none)
  (z_sorted:zH K mainGlobals "sorted" = some none)
  (z_str:zH K mainGlobals "str" = some none)
  (z_tuple:zH K mainGlobals "tuple" = some none)
  (z_zip:zH K mainGlobals "zip" = some none)
  (g_LAST_TIME:zH K mainGlobals "LAST_TIME" = some (some (.int 1000000000 ak)))
  (g_MOST_SPREAD_WALKERS:zH K mainGlobals "MOST_SPREAD_WALKERS" = some (some (.int 8 ai)))
  (g_MOST_SPREAD_MEETINGS:zH K mainGlobals "MOST_SPREAD_MEETINGS" = some (some (.int 24 ah)))
  (h_cd:Az.code=.ref tC) (h_hd:PySem.W.codeHdIn K tC tP=true) :
  ∃ fd:FuncData,(∃ c,PySem.W.codeHdIn K c tP=true)/\(∀ (s:Shared) (v:Value),BindsTo s fd ⟨[v],[]⟩ [("_law_script", v)])/\∀ base:Heap,K.In base->base.Ns mainGlobals mg->aS mg base->aO l.prog w K mg base bZ 7 fa fd ["_law_script"] (nh K tP cu):=by
 have e:=hfa.symm.trans (zL X G ET);cases e;have Hu:=Bb.binds (ps:=["_law_script", "_law_k"]) λ_ _ _ _ _ _ us hl=>tD hl λ_ _=>rfl;have II:=Bt.binds (ps:=["_law_purse_here", "_law_many"]) λ_ _ _ _ _ _ us hl=>tD hl λ_ _=>rfl;have Jr:=BM.binds (ps:=["_law_purse_here"]) λ_ _ _ _ _ _ us hl=>ML hl λ_=>rfl;have Hs:=A9.binds (ps:=["_law_purse_here", "_law_walkers"]) λ_ _ _ _ _ _ us hl=>tD hl λ_ _=>rfl;have IJ:=Bu.binds (ps:=["_law_purse_here"]) λ_ _ _ _ _ _ us hl=>ML hl λ_=>rfl;have FC:=Aq.binds (ps:=["_law_purse_here", "_law_walkers", "_law_most"]) λ_ _ _ _ _ _ us hl=>qQ hl λ_ _ _=>rfl;have IL:=Bw.binds (ps:=["_law_purse_here", "_law_most_walkers", "_law_most_meetings"]) λ_ _ _ _ _ _ us hl=>qQ hl λ_ _ _=>rfl;have IH:=Bs.binds (ps:=["_law_purse_here", "_law_book_here", "_law_later"]) λ_ _ _ _ _ _ us hl=>qQ hl λ_ _ _=>rfl;have Hq:=A7.binds (ps:=["_law_thing"]) λ_ _ _ _ _ _ us hl=>ML hl λ_=>rfl;have Jo:=BJ.binds (ps:=["thing"]) λ_ _ _ _ _ _ us hl=>ML hl λ_=>rfl;have IE:=Bp.binds (ps:=["thing", "least", "most"]) λ_ _ _ _ _ _ us hl=>qQ hl λ_ _ _=>rfl;have JI:=Cp.binds (ps:=["thing"]) λ_ _ _ _ _ _ us hl=>ML hl λ_=>rfl;have Jp:=BK.binds (ps:=["number", "bound"]) λ_ _ _ _ _ _ us hl=>tD hl λ_ _=>rfl;have JH:=Co.binds (ps:=["number", "bound"]) λ_ _ _ _ _ _ us hl=>tD hl λ_ _=>rfl;have IF:=Bq.binds (ps:=["book", "thing"]) λ_ _ _ _ _ _ us hl=>tD hl λ_ _=>rfl;have JJ:=Cq.binds (ps:=["book", "time"]) λ_ _ _ _ _ _ us hl=>tD hl λ_ _=>rfl;have Kb:=Eu.binds (ps:=["book"]) λ_ _ _ _ _ _ us hl=>ML hl λ_=>rfl;have Jm:=BH.binds (ps:=["book", "number", "walker"]) λ_ _ _ _ _ _ us hl=>qQ hl λ_ _ _=>rfl;have Jn:=BI.binds (ps:=["book", "walker", "number"]) λ_ _ _ _ _ _ us hl=>qQ hl λ_ _ _=>rfl;have JV:=CZ.binds (ps:=["wishes"]) λ_ _ _ _ _ _ us hl=>ML hl λ_=>rfl;have F9:=Av.binds (ps:=["some", "number"]) λ_ _ _ _ _ _ us hl=>tD hl λ_ _=>rfl;have JT:=CW.binds (ps:=["some"]) λ_ _ _ _ _ _ us hl=>ML hl λ_=>rfl;have IG:=Br.binds (ps:=["book", "thing"]) λ_ _ _ _ _ _ us hl=>tD hl λ_ _=>rfl;have FB:=Ap.binds (ps:=["book", "sender", "since"]) λ_ _ _ _ _ _ us hl=>qQ hl λ_ _ _=>rfl;have Fb:=Ak.binds (ps:=["book", "sender", "since"]) λ_ _ _ _ _ _ us hl=>qQ hl λ_ _ _=>rfl;have Jq:=BL.binds (ps:=["book", "letter"]) λ_ _ _ _ _ _ us hl=>tD hl λ_ _=>rfl;have Hn:=A5.binds (ps:=["book", "wishes", "stretch", "walker", "some"]) λ_ _ _ _ _ _ us hl=>Rz hl λ_ _ _ _ _=>rfl;have J1:=DD.binds (ps:=["book", "stretch", "walker", "some", "following"]) λ_ _ _ _ _ _ us hl=>Rz hl λ_ _ _ _ _=>rfl;have JU:=CY.binds (ps:=["book", "wishes", "stretch", "walker", "following"]) λ_ _ _ _ _ _ us hl=>Rz hl λ_ _ _ _ _=>rfl;have Ga:=Aw.binds (ps:=["book", "wishes"]) λ_ _ _ _ _ _ us hl=>tD hl λ_ _=>rfl;have Ho:=A6.binds (ps:=["kept", "given", "some"]) λ_ _ _ _ _ _ us hl=>qQ hl λ_ _ _=>rfl;have JG:=Cn.binds (ps:=["book", "sender", "since", "wishes", "prices"]) λ_ _ _ _ _ _ us hl=>Rz hl λ_ _ _ _ _=>rfl;have JS:=CV.binds (ps:=["book", "sender", "since", "wishes"]) λ_ _ _ _ _ _ us hl=>V4 hl λ_ _ _ _=>rfl;have JK:=Cr.binds (ps:=["_law_book_here", "_law_time_here"]) λ_ _ _ _ _ _ us hl=>tD hl λ_ _=>rfl;have Hr:=A8.binds (ps:=["_law_book_here", "_law_sender", "_law_since"]) λ_ _ _ _ _ _ us hl=>qQ hl λ_ _ _=>rfl;have GA:=AM.binds (ps:=["_law_purse_here", "_law_book_here", "_law_most"]) λ_ _ _ _ _ _ us hl=>qQ hl λ_ _ _=>rfl;have ES:=Ah.binds (ps:=["_law_book_here", "_law_sender", "_law_since", "_law_steps"]) λ_ _ _ _ _ _ us hl=>V4 hl λ_ _ _ _=>rfl;have GB:=AN.binds (ps:=["_law_times_here", "_law_wishes_here"]) λ_ _ _ _ _ _ us hl=>tD hl λ_ _=>rfl;have GC:=AO.binds (ps:=["_law_book_here", "_law_wishes_here", "_law_prices"]) λ_ _ _ _ _ _ us hl=>qQ hl λ_ _ _=>rfl;have IK:=Bv.binds (ps:=["_law_book_here", "_law_wishes_here", "_law_prices"]) λ_ _ _ _ _ _ us hl=>qQ hl λ_ _ _=>rfl;have Hy:=Be.binds (ps:=["_law_now", "_law_kept", "_law_given"]) λ_ _ _ _ _ _ us hl=>qQ hl λ_ _ _=>rfl;have Hw:=Bd.binds (ps:=["_law_book_here", "_law_prices"]) λ_ _ _ _ _ _ us hl=>tD hl λ_ _=>rfl;have IM:=Bx.binds (ps:=["_law_book_here", "_law_letter", "_law_numbers"]) λ_ _ _ _ _ _ us hl=>qQ hl λ_ _ _=>rfl;have Hv:=Bc.binds (ps:=["_law_book_here", "_law_sender", "_law_since", "_law_wishes_here"]) λ_ _ _ _ _ _ us hl=>V4 hl λ_ _ _ _=>rfl;have Ht:=Ba.binds (ps:=["_law_book_here", "_law_sender", "_law_since", "_law_wishes_here", "_law_told"]) λ_ _ _ _ _ _ us hl=>Rz hl λ_ _ _ _ _=>rfl;have GD:=AQ.binds (ps:=["_law_thing"]) λ_ _ _ _ _ _ us hl=>ML hl λ_=>rfl;have Kd:=Fv.binds (ps:=["_law_script"]) λ_ _ _ _ _ _ us hl=>ML hl λ_=>rfl;have T:Tx K mg ⟨Dx,BD,DX,BR,Es,Cm,Dv,BB,DY,BS,CG,Ay,D0,BU,DW,BQ,Dt,Bz,Eo,Cj,DT,BN,E7,CN,Ep,Ck,E6,CM,DU,BO,E8,CO,Jl,Fa,Em,Ch,En,Ci,F8,Di,CT,AR,F6,Dg,DV,BP,CF,Ax,Cg,Au,Er,Cl,Dq,By,Hm,D6,F7,Dh,CU,AS,Dr,Az,E5,CL,F5,Df,E9,CP,Du,BA,C7,Bf,Ce,Ao,C8,Bg,C9,Bh,DZ,BT,DA,BG,Dz,BF,D1,BV,Dy,BE,Dw,BC,Da,AL,fa,GW,tC,tP⟩ ak ai ah:=⟨Bb,Hu,zL X G AG,Bb.kp,Bt,II,zL X G AX,Bt.kp,BM,Jr,zL X G Bo,BM.kp,A9,Hs,zL X G AE,A9.kp,Bu,IJ,zL X G AY,Bu.kp,Aq,FC,zL X G Aj,Aq.kp,Bw,IL,zL X G A3,Bw.kp,Bs,IH,zL X G AW,Bs.kp,A7,Hq,zL X G AC,A7.kp,BJ,Jo,zL X G Bl,BJ.kp,Bp,IE,zL X G AT,Bp.kp,Cp,JI,zL X G BY,Cp.kp,BK,Jp,zL X G Bm,BK.kp,Co,JH,zL X G BX,Co.kp,Bq,IF,zL X G AU,Bq.kp,Cq,JJ,zL X G BZ,Cq.kp,Eu,Kb,zL X G D2,Eu.kp,BH,Jm,zL X G Bi,BH.kp,BI,Jn,zL X G Bj,BI.kp,CZ,JV,zL X G CD,CZ.kp,Av,F9,zL X G Am,Av.kp,CW,JT,zL X G CB,CW.kp,Br,IG,zL X G AV,Br.kp,Ap,FB,zL X G Ai,Ap.kp,Ak,Fb,zL X G Ag,Ak.kp,BL,Jq,zL X G Bn,BL.kp,A5,Hn,zL X G AA,A5.kp,DD,J1,zL X G C2,DD.kp,CY,JU,zL X G CC,CY.kp,Aw,Ga,zL X G An,Aw.kp,A6,Ho,zL X G AB,A6.kp,Cn,JG,zL X G BW,Cn.kp,CV,JS,zL X G Cz,CV.kp,Cr,JK,zL X G Ca,Cr.kp,A8,Hr,zL X G AD,A8.kp,AM,GA,zL X G Ar,AM.kp,Ah,ES,zL X G Af,Ah.kp,AN,GB,zL X G As,AN.kp,AO,GC,zL X G At,AO.kp,Bv,IK,zL X G AZ,Bv.kp,Be,Hy,zL X G AJ,Be.kp,Bd,Hw,zL X G AI,Bd.kp,Bx,IM,zL X G A4,Bx.kp,Bc,Hv,zL X G AH,Bc.kp,Ba,Ht,zL X G AF,Ba.kp,AQ,GD,zL X G Al,AQ.kp,Fv,Kd,zL X G ET,Fv.kp,zh X G z_all,zh X G z_any,zh X G z_bool,zh X G z_enumerate,zh X G z_int,zh X G z_isinstance,zh X G z_len,zh X G z_list,zh X G z_max,zh X G z_min,zh X G z_range,zh X G z_reversed,zh X G z_sorted,zh X G z_str,zh X G z_tuple,zh X G z_zip,h_hd,h_cd,zL X G g_LAST_TIME,zL X G g_MOST_SPREAD_WALKERS,zL X G g_MOST_SPREAD_MEETINGS⟩;obtain ⟨_,_,_,_,_,_,_,_,_,rfl,_,_⟩:=Fv.ex;exact ⟨_,⟨tC,h_hd⟩,λs v=>.of_eq rfl,λbase _ _ B=>J7 _ _ base T B⟩
theorem walk {l:PySem.W.OpenLaw}{q:Program}{loose:List Str}{XP:(Str->Option Value)->Heap->Prop}{YP:World->Heap->Prop}{d:DefRec}{K:Params->PySem.W.Frag}{T:Addr}(hn:l.most=some 63)(SX:d.params.defaults=[])
  (hY:∀ (w:World) (h:Heap),YP w h->(K w.params).In h/\h.get? T=some (PySem.W.tabObj #[])) (nt:∀ w:World,PySem.W.noTabs (K w.params)=true)
  (F:∀ (w:World) (mg:Str->Option Value) (fa:Addr) (h:Heap),(K w.params).In h->h.Ns mainGlobals mg->mg d.name=some (.ref fa) ->
   ∃ fd:FuncData,(∃ c,PySem.W.codeHdIn (K w.params) c T=true)/\(∀ (s:Shared) (u:Value),BindsTo s fd ⟨[u],[]⟩ [("_law_script", u)])/\∀ base:Heap,(K w.params).In base->base.Ns mainGlobals mg->aS mg base->aO l.prog w (K w.params) mg base bZ 7 fa fd ["_law_script"] (nh (K w.params) T cu)) :
  PySem.W.WalkO q loose XP YP l.row.toRowW d [] (λf vs=>PySem.call f vs):=
 L2.Ko (n:=63) (k:=7) (x := "_law_script") (CX:=λ_=>bZ) (sp:=λw=>nh (K w.params) T cu) hn (by decide) SX ⟨rfl,by decide,by decide,rfl⟩ hY nt F (λ_ _ a ns hl hT hS=>⟨a,ns,rfl,hS,hl,.inl hT,λ_=>rfl⟩) λ_ _ _ _ _ z=>z
end Sm
namespace PySem.W.Fast
def tw2407065414663378762:Nat:=0
def tw799992645529872989:Nat:=0
def tw4943117813435161743:Nat:=0
def tw4390441899666969625:Nat:=0
def tw12626754364651681232:Nat:=0
def tw16394557085603202152:Nat:=0
def tw8524883531344323448:Nat:=0
def tw15185596978671104288:Nat:=0
def tw16325305478958089829:Nat:=0
def tw18165751090846925822:Nat:=0
def tw10224016977674923341:Nat:=0
def tw1810334394249308019:Nat:=0
def tw9372952813685875065:Nat:=0
def tw10412033257247835199:Nat:=0
def tw15477823988061689588:Nat:=0
def tw17754457387838612258:Nat:=0
def tw27726044815670517:Nat:=0
def tw4591127497466930547:Nat:=0
def tw16919989164782382835:Nat:=0
def tw13803908473568613574:Nat:=0
def tw17743820150574957334:Nat:=0
def tw9380577859393784005:Nat:=0
def tw7812456174220054221:Nat:=0
def tw1626644726660229140:Nat:=0
def tw4119887215247084940:Nat:=0
def tw9015457600072061118:Nat:=0
def tw17672396524240731118:Nat:=0
def tw16390960352806136147:Nat:=0
def tw11665279500767876543:Nat:=0
def tw6879185004180593011:Nat:=0
def tw16336261103534473811:Nat:=0
def tw6430571951862622444:Nat:=0
def tw9083106678853804152:Nat:=0
def tw11669236432276305486:Nat:=0
def tw12089251138878497726:Nat:=0
def tw2453150027164108278:Nat:=0
def tw14237184981520461977:Nat:=0
def tw135627367789125834:Nat:=0
def tw2466343172358387070:Nat:=0
def tw15213821038940596704:Nat:=0
def tw17071016607831562931:Nat:=0
def tw15055204687647283284:Nat:=0
def tw16805975574294069417:Nat:=0
def tw978876160503662317:Nat:=0
def tw7066429999950684692:Nat:=0
def tw17618340857291370155:Nat:=0
def tw10506250609999808558:Nat:=0
def tw2498471891503551717:Nat:=0
def tw18405479178663753040:Nat:=0
def tw15838894463202758641:Nat:=0
def tw4006749126830526394:Nat:=0
def tw1092230003768189663:Nat:=0
def tw8026654631757234825:Nat:=0
def tw2163298739035782087:Nat:=0
def tw5777027605288611356:Nat:=0
def tw1659503130146572257:Nat:=0
def tw6988803942838557048:Nat:=0
def tw18087208268263567495:Nat:=0
def tw16730556989559017697:Nat:=0
def tw562005209774093695:Nat:=0
def tw6076638579059415833:Nat:=0
def tw9229660992410746375:Nat:=0
def tw14686537580865758070:Nat:=0
def tw5685717410680019354:Nat:=0
def tw15977737592525213310:Nat:=0
def tw11628804110904490858:Nat:=0
def tw7501390550770481607:Nat:=0
def tw12784996116281846000:Nat:=0
def tw11360575339891952610:Nat:=0
def tw9672408380371174963:Nat:=0
def tw4656211598909981157:Nat:=0
def tw8795692770060451154:Nat:=0
def tw1851421531573121857:Nat:=0
def tw8797080680914910836:Nat:=0
def tw8997941210910329344:Nat:=0
def tw2943352035351938125:Nat:=0
def tw2714390616625482360:Nat:=0
def tw11868611617834794333:Nat:=0
def tw3633319855891311621:Nat:=0
def tw15819648109040794515:Nat:=0
def tw13612031933542545976:Nat:=0
def tw9709536200438387295:Nat:=0
def tw6654940543539460058:Nat:=0
def tw12386878565322998632:Nat:=0
def tw3233289434323694038:Nat:=0
def tw9391565213194279211:Nat:=0
def tw18148301856848567150:Nat:=0
def tw13840600293836183220:Nat:=0
def tw4725727918189836114:Nat:=0
def tw2087878362882393509:Nat:=0
def tw5582498025276992290:Nat:=0
def tw6071477201035004021:Nat:=0
def tw238797210742194443:Nat:=0
def tw11961877549838712193:Nat:=0
def tw14891772950057310316:Nat:=0
def tw13829536846788026746:Nat:=0
def tw460260218019691728:Nat:=0
def tw17345878742243048853:Nat:=0
def tw17972195704619694424:Nat:=0
def tw10253353531792209796:Nat:=0
def tw12957433835717473172:Nat:=0
def tw16541539396515873411:Nat:=0
def tw5322923008311956983:Nat:=0
def tw6063487818209225843:Nat:=0
def tw2115922160556204441:Nat:=0
def tw14750128312999584450:Nat:=0
def tw7284488498783537606:Nat:=0
def tw14687219586631493439:Nat:=0
def tw1750912059409644772:Nat:=0
def tw17612979378222946566:Nat:=0
def tw12019990805430795953:Nat:=0
def tw5153731741024381990:Nat:=0
def tw6699327436252502384:Nat:=0
def tw14475310200035538324:Nat:=0
def tw16508738080037719079:Nat:=0
def tw15231411251510842881:Nat:=0
def tw2501529814103260095:Nat:=0
def tw12134817326776840281:Nat:=0
def tw14893823298980988474:Nat:=0
def tw8254764368696692297:Nat:=0
def tw15167987555338120116:Nat:=0
def tw5371812346982565146:Nat:=0
def tw13170904050274022655:Nat:=0
def tw18093355595507738836:Nat:=0
def tw13645301743742292503:Nat:=0
def tw5873368056298112387:Nat:=0
def tw10958948332317349429:Nat:=0
def tw9377334704572776350:Nat:=0
def tw7131183141185998878:Nat:=0
def tw1059011495450681554:Nat:=0
def tw12703537338431595847:Nat:=0
def tw740182292652995911:Nat:=0
def tw1884287753792039211:Nat:=0
def tw759951590503556268:Nat:=0
def tw17444429722814008148:Nat:=0
def tw17120952218662681156:Nat:=0
def tw11226025712794324088:Nat:=0
def tw1288219671209728143:Nat:=0
def tw18137061010385398319:Nat:=0
def tw11418352410960551772:Nat:=0
def tw13030969601609257497:Nat:=0
def tw16436687815383827961:Nat:=0
def tw18278619460752449409:Nat:=0
def tw5693113480892976761:Nat:=0
def tw298342405459296460:Nat:=0
def tw18068250019041542797:Nat:=0
def tw15662223788102974173:Nat:=0
def tw9319241215005697154:Nat:=0
def tw8016473785577111091:Nat:=0
end PySem.W.Fast
open PySem PySem.W PyProof.Rows
set_option maxRecDepth 100000 in
set_option maxHeartbeats 0 in
theorem PySem.Challenge.cw_satchelmeet_k61_whole_tree_and_prices_holds : PySem.Challenge.rw_satchelmeet_k61_whole_tree_and_prices.Holds := by
 w_on;o_law;k_head;(case hw=>w_witness2)
 k_fill
 refine Sm.walk (l:=PySem.Challenge.rw_satchelmeet_k61_whole_tree_and_prices) rfl rfl (λw h Y=>⟨PySem.W.km_in_of Y,PySem.W.km_tabs_of Y _ (List.Mem.head _)⟩) (λw=>by kernel_rfl) ?F
 case F=>
  intro w mg fa h KX G hmg
  refine' Sm.all_mk KX G hmg ?AG ?Bb ?AX ?Bt ?Bo ?BM ?AE ?A9 ?AY ?Bu ?Aj ?Aq ?A3 ?Bw ?AW ?Bs ?AC ?A7 ?Bl ?BJ ?AT ?Bp ?BY ?Cp ?Bm ?BK ?BX ?Co ?AU ?Bq ?BZ ?Cq ?D2 ?Eu ?Bi ?BH ?Bj ?BI ?CD ?CZ ?Am ?Av ?CB ?CW ?AV ?Br ?Ai ?Ap ?Ag ?Ak ?Bn ?BL ?AA ?A5 ?C2 ?DD ?CC ?CY ?An ?Aw ?AB ?A6 ?BW ?Cn ?Cz ?CV ?Ca ?Cr ?AD ?A8 ?Ar ?AM ?Af ?Ah ?As ?AN ?At ?AO ?AZ ?Bv ?AJ ?Be ?AI ?Bd ?A4 ?Bx ?AH ?Bc ?AF ?Ba ?Al ?AQ ?ET ?Fv ?z_all ?z_any ?z_bool ?z_enumerate ?z_int ?z_isinstance ?z_len ?z_list ?z_max ?z_min ?z_range ?z_reversed ?z_sorted ?z_str ?z_tuple ?z_zip ?g_LAST_TIME ?g_MOST_SPREAD_WALKERS ?g_MOST_SPREAD_MEETINGS ?h_cd ?h_hd
  (case AG=>k_is)
  (case Bb=>refine' L2.fun_mk ?x1 ?y1 ?z1;(case x1=>k_is);(case y1=>k_is);(case z1=>k_is))
  (case AX=>k_is)
  (case Bt=>refine' L2.fun_mk ?x3 ?y3 ?z3;(case x3=>k_is);(case y3=>k_is);(case z3=>k_is))
  (case Bo=>k_is)
  (case BM=>refine' L2.fun_mk ?x5 ?y5 ?z5;(case x5=>k_is);(case y5=>k_is);(case z5=>k_is))
  (case AE=>k_is)
  (case A9=>refine' L2.fun_mk ?x7 ?y7 ?z7;(case x7=>k_is);(case y7=>k_is);(case z7=>k_is))
  (case AY=>k_is)
  (case Bu=>refine' L2.fun_mk ?x9 ?y9 ?z9;(case x9=>k_is);(case y9=>k_is);(case z9=>k_is))
  (case Aj=>k_is)
  (case Aq=>refine' L2.fun_mk ?x11 ?y11 ?z11;(case x11=>k_is);(case y11=>k_is);(case z11=>k_is))
  (case A3=>k_is)
  (case Bw=>refine' L2.fun_mk ?x13 ?y13 ?z13;(case x13=>k_is);(case y13=>k_is);(case z13=>k_is))
  (case AW=>k_is)
  (case Bs=>refine' L2.fun_mk ?x15 ?y15 ?z15;(case x15=>k_is);(case y15=>k_is);(case z15=>k_is))
  (case AC=>k_is)
  (case A7=>refine' L2.fun_mk ?x17 ?y17 ?z17;(case x17=>k_is);(case y17=>k_is);(case z17=>k_is))
  (case Bl=>k_is)
  (case BJ=>refine' L2.fun_mk ?x19 ?y19 ?z19;(case x19=>k_is);(case y19=>k_is);(case z19=>k_is))
  (case AT=>k_is)
  (case Bp=>refine' L2.fun_mk ?x21 ?y21 ?z21;(case x21=>k_is);(case y21=>k_is);(case z21=>k_is))
  (case BY=>k_is)
  (case Cp=>refine' L2.fun_mk ?x23 ?y23 ?z23;(case x23=>k_is);(case y23=>k_is);(case z23=>k_is))
  (case Bm=>k_is)
  (case BK=>refine' L2.fun_mk ?x25 ?y25 ?z25;(case x25=>k_is);(case y25=>k_is);(case z25=>k_is))
  (case BX=>k_is)
  (case Co=>refine' L2.fun_mk ?x27 ?y27 ?z27;(case x27=>k_is);(case y27=>k_is);(case z27=>k_is))
  (case AU=>k_is)
  (case Bq=>refine' L2.fun_mk ?x29 ?y29 ?z29;(case x29=>k_is);(case y29=>k_is);(case z29=>k_is))
  (case BZ=>k_is)
  (case Cq=>refine' L2.fun_mk ?x31 ?y31 ?z31;(case x31=>k_is);(case y31=>k_is);(case z31=>k_is))
  (case D2=>k_is)
  (case Eu=>refine' L2.fun_mk ?x33 ?y33 ?z33;(case x33=>k_is);(case y33=>k_is);(case z33=>k_is))
  (case Bi=>k_is)
  (case BH=>refine' L2.fun_mk ?x35 ?y35 ?z35;(case x35=>k_is);(case y35=>k_is);(case z35=>k_is))
  (case Bj=>k_is)
  (case BI=>refine' L2.fun_mk ?x37 ?y37 ?z37;(case x37=>k_is);(case y37=>k_is);(case z37=>k_is))
  (case CD=>k_is)
  (case CZ=>refine' L2.fun_mk ?x39 ?y39 ?z39;(case x39=>k_is);(case y39=>k_is);(case z39=>k_is))
  (case Am=>k_is)
  (case Av=>refine' L2.fun_mk ?x41 ?y41 ?z41;(case x41=>k_is);(case y41=>k_is);(case z41=>k_is))
  (case CB=>k_is)
  (case CW=>refine' L2.fun_mk ?x43 ?y43 ?z43;(case x43=>k_is);(case y43=>k_is);(case z43=>k_is))
  (case AV=>k_is)
  (case Br=>refine' L2.fun_mk ?x45 ?y45 ?z45;(case x45=>k_is);(case y45=>k_is);(case z45=>k_is))
  (case Ai=>k_is)
  (case Ap=>refine' L2.fun_mk ?x47 ?y47 ?z47;(case x47=>k_is);(case y47=>k_is);(case z47=>k_is))
  (case Ag=>k_is)
  (case Ak=>refine' L2.fun_mk ?x49 ?y49 ?z49;(case x49=>k_is);(case y49=>k_is);(case z49=>k_is))
  (case Bn=>k_is)
  (case BL=>refine' L2.fun_mk ?x51 ?y51 ?z51;(case x51=>k_is);(case y51=>k_is);(case z51=>k_is))
  (case AA=>k_is)
  (case A5=>refine' L2.fun_mk ?x53 ?y53 ?z53;(case x53=>k_is);(case y53=>k_is);(case z53=>k_is))
  (case C2=>k_is)
  (case DD=>refine' L2.fun_mk ?x55 ?y55 ?z55;(case x55=>k_is);(case y55=>k_is);(case z55=>k_is))
  (case CC=>k_is)
  (case CY=>refine' L2.fun_mk ?x57 ?y57 ?z57;(case x57=>k_is);(case y57=>k_is);(case z57=>k_is))
  (case An=>k_is)
  (case Aw=>refine' L2.fun_mk ?x59 ?y59 ?z59;(case x59=>k_is);(case y59=>k_is);(case z59=>k_is))
  (case AB=>k_is)
  (case A6=>refine' L2.fun_mk ?x61 ?y61 ?z61;(case x61=>k_is);(case y61=>k_is);(case z61=>k_is))
  (case BW=>k_is)
  (case Cn=>refine' L2.fun_mk ?x63 ?y63 ?z63;(case x63=>k_is);(case y63=>k_is);(case z63=>k_is))
  (case Cz=>k_is)
  (case CV=>refine' L2.fun_mk ?x65 ?y65 ?z65;(case x65=>k_is);(case y65=>k_is);(case z65=>k_is))
  (case Ca=>k_is)
  (case Cr=>refine' L2.fun_mk ?x67 ?y67 ?z67;(case x67=>k_is);(case y67=>k_is);(case z67=>k_is))
  (case AD=>k_is)
  (case A8=>refine' L2.fun_mk ?x69 ?y69 ?z69;(case x69=>k_is);(case y69=>k_is);(case z69=>k_is))
  (case Ar=>k_is)
  (case AM=>refine' L2.fun_mk ?x71 ?y71 ?z71;(case x71=>k_is);(case y71=>k_is);(case z71=>k_is))
  (case Af=>k_is)
  (case Ah=>refine' L2.fun_mk ?x73 ?y73 ?z73;(case x73=>k_is);(case y73=>k_is);(case z73=>k_is))
  (case As=>k_is)
  (case AN=>refine' L2.fun_mk ?x75 ?y75 ?z75;(case x75=>k_is);(case y75=>k_is);(case z75=>k_is))
  (case At=>k_is)
  (case AO=>refine' L2.fun_mk ?x77 ?y77 ?z77;(case x77=>k_is);(case y77=>k_is);(case z77=>k_is))
  (case AZ=>k_is)
  (case Bv=>refine' L2.fun_mk ?x79 ?y79 ?z79;(case x79=>k_is);(case y79=>k_is);(case z79=>k_is))
  (case AJ=>k_is)
  (case Be=>refine' L2.fun_mk ?x81 ?y81 ?z81;(case x81=>k_is);(case y81=>k_is);(case z81=>k_is))
  (case AI=>k_is)
  (case Bd=>refine' L2.fun_mk ?x83 ?y83 ?z83;(case x83=>k_is);(case y83=>k_is);(case z83=>k_is))
  (case A4=>k_is)
  (case Bx=>refine' L2.fun_mk ?x85 ?y85 ?z85;(case x85=>k_is);(case y85=>k_is);(case z85=>k_is))
  (case AH=>k_is)
  (case Bc=>refine' L2.fun_mk ?x87 ?y87 ?z87;(case x87=>k_is);(case y87=>k_is);(case z87=>k_is))
  (case AF=>k_is)
  (case Ba=>refine' L2.fun_mk ?x89 ?y89 ?z89;(case x89=>k_is);(case y89=>k_is);(case z89=>k_is))
  (case Al=>k_is)
  (case AQ=>refine' L2.fun_mk ?x91 ?y91 ?z91;(case x91=>k_is);(case y91=>k_is);(case z91=>k_is))
  (case ET=>k_is)
  (case Fv=>refine' L2.fun_mk ?x93 ?y93 ?z93;(case x93=>k_is);(case y93=>k_is);(case z93=>k_is))
  (case z_all=>k_is)
  (case z_any=>k_is)
  (case z_bool=>k_is)
  (case z_enumerate=>k_is)
  (case z_int=>k_is)
  (case z_isinstance=>k_is)
  (case z_len=>k_is)
  (case z_list=>k_is)
  (case z_max=>k_is)
  (case z_min=>k_is)
  (case z_range=>k_is)
  (case z_reversed=>k_is)
  (case z_sorted=>k_is)
  (case z_str=>k_is)
  (case z_tuple=>k_is)
  (case z_zip=>k_is)
  (case g_LAST_TIME=>k_is)
  (case g_MOST_SPREAD_WALKERS=>k_is)
  (case g_MOST_SPREAD_MEETINGS=>k_is)
  (case h_cd=>rfl)
  (case h_hd=>kernel_rfl)

