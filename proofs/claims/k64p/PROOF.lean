import PyProof.Rows.All
import Wide.All
import OpenK.AllK
import Wide.FinOn
import Lean
import PyProof.EqAt
import PyProof.EqKinds
import PyProof.TupleCall
import KE.KRevIter
import KE.KDictOf
import PyProof.AttrMissHeap
import PyProof.StrWalks
import PyProof.StrBlockI
import PyProof.FString5
import PyProof.SetRoads
import PyProof.SetNew
import PyProof.TupleKey
import PyProof.InstEq
import PySem.SetOps
import PyProof.Rows.SetFrom
import KE.KTryMore
import PyProof.NsDelKeeps
import KE.KIsAll
import KE.KItemsList
import KE.KSortTup
import KE.KDictSum
import KE.KLam
import KE.KNestM
import KE.KSortTup
import PySem.Challenge.RW_satchelmeet_k64_whole_wishes_in_any_orde
open List renaming length_map → zA,getElem?_eq_some_iff → zC,mem_of_getElem? → zD,mem_append_right → zE,map_append → zF,getElem?_map → zG,getElem?_eq_getElem → zI,size_toArray → zM,mem_singleton → zN,length_append → zO,mem_cons → zP,mem_append → zQ,mem_map → zS,mem_append_left → zT,getElem?_append_right → zW,length_cons → zZ,map_cons → za,getD_eq_getElem?_getD → zb,getElem?_append_left → zf,mem_range → zj,length_take → zk,mem_cons_of_mem → zp,length_drop → zz,getElem_mem → z4,map_map → yC,take_length → yD,mem_reverse → yF,length_range → yH,length_nil → yI,mem_cons_self → yJ,getElem?_cons_succ → yK,replicate_succ → yM,mem_map_of_mem → yO,pairwise_iff_getElem → yQ,length_singleton → yR,mem_iff_getElem? → yS,map_nil → yU,getElem?_cons_zero → yW,length_reverse → yY,lookup_cons → yZ,not_mem_nil → ya,mem_filterMap → yb,nodup_cons → yf,flatten_cons → yh,filterMap_cons → yj,mem_flatMap → yl,set_cons_zero → yn,set_cons_succ → yo,append_nil → yp,find?_cons → yq,sum_append → yt,any_cons → yu,reverse_cons → yw,pairwise_map → yx,foldl_append → yy,cons_append → yz,all_eq_true → xB,of_mem_zip → xF,nil_append → xG,map_set → xJ
open Nat renaming le_refl → zB,lt_of_lt_of_le → zR,ne_of_lt → zU,zero_le → zY,testBit_or → zm,testBit_two_pow → zo,le_trans → zu,not_lt_zero → zv,eq_of_testBit_eq → zw,lt_of_le_of_lt → zx,lt_irrefl → zy,zero_testBit → z6,le_succ → z8,testBit_and → yB,lt_succ_iff → yP,ne_of_gt → yT,two_pow_pos → yg,lt_succ_of_lt → yi,lt_succ_self → xA,mod_eq_of_lt → xC,le_of_lt → xH
open PySem.W renaming nsIn → zH,keepIn → zJ,mg_of → zL,mg_none_of → zl,kia_one → yA,fnOf → xI
open Bool renaming false_ne_true → zK,and_eq_true → zX,false_eq_true → ze,false_and → yL,or_eq_true → yX,and_false → yk,true_and → xD,eq_iff_iff → xE
open PySem.F renaming plainAttrs_list → zV,slot_list_append → zc,type_list_append → zd,plain_min_loop → yE
open Int renaming eq_ofNat_of_zero_le → zg,le_refl → zq,toNat_natCast → yG,toNat_of_nonneg → yN,emod_lt_of_pos → yc,le_trans → ym,emod_nonneg → yr
open PyProof.Rows renaming boot_isinstance → zh,callWith_type1 → zi,boot_tuple → yV,boot_min → yd
open PySem renaming mem_of_lookup → zn
open Option renaming map_some → ye
set_option Elab.async false
set_option linter.all false
set_option maxRecDepth 100000
set_option maxHeartbeats 4000000
namespace L2
open PySem PySem.Spec PyProof.Rows
abbrev Key:=Sum Int Str
def lZ:Key->Value->Bool
 | .inl k,v=>Value.isInt k v
 | .inr x,v=>Value.isStrOf x v
def UU (w:World):Key->Int
 | .inl k=>hashInt k
 | .inr x=>hashStr w x
theorem wG:∀ {k:Key}{v:Value},lZ k v=true->(∃ i t,k=Sum.inl i/\v=Value.int i t)\/(∃ x t,k=Sum.inr x/\v=Value.str x t)
 | .inl i,v,h=>by
  obtain ⟨t,e⟩:=Value.isInt_shape (k:=i) (v:=v) h;exact .inl ⟨i,t,rfl,e⟩
 | .inr x,v,h=>by
  obtain ⟨t,e⟩:=Value.isStrOf_shape (x:=x) (v:=v) h;exact .inr ⟨x,t,rfl,e⟩
theorem uz (i:Int)(t:Tok):lZ (.inl i) (.int i t)=true:=by simp [lZ,Value.isInt]
theorem uy (x:Str)(t:Tok):lZ (.inr x) (.str x t)=true:=by simp [lZ,Value.isStrOf]
theorem N5 (a b:Int):decide ((Sum.inl a:Key)=Sum.inl b)=(a == b):=by
 by_cases e:a=b
 ·subst e;simp
 ·have h:¬ (Sum.inl a:Key)=Sum.inl b:=λq=>e (Sum.inl.inj q);rw [decide_eq_false h];exact (beq_eq_false_iff_ne.mpr e).symm
theorem N1 (a b:Str):decide ((Sum.inr a:Key)=Sum.inr b)=decide (a=b):=by
 by_cases e:a=b
 ·subst e;simp
 ·have h:¬ (Sum.inr a:Key)=Sum.inr b:=λq=>e (Sum.inr.inj q);rw [decide_eq_false h,decide_eq_false e]
theorem N4 (a:Int)(b:Str):decide ((Sum.inl a:Key)=Sum.inr b)=false:=decide_eq_false (λq=>nomatch q)
theorem N3 (a:Str)(b:Int):decide ((Sum.inr a:Key)=Sum.inl b)=false:=decide_eq_false (λq=>nomatch q)
def bH (prog:Program)(w:World):PySem.KeyKind prog w Key where
 is:=lZ
 hash:=UU w
 inj:=λv a b ha hb=>by
  rcases wG ha with ⟨i,t,rfl,rfl⟩ | ⟨x,t,rfl,rfl⟩
  ·rcases wG hb with ⟨j,u,rfl,e⟩ | ⟨y,u,rfl,e⟩
   ·injection e with e1 _;rw [e1]
   ·exact nomatch e
  ·rcases wG hb with ⟨j,u,rfl,e⟩ | ⟨y,u,rfl,e⟩
   ·exact nomatch e
   ·injection e with e1 _;rw [e1]
 byValue:=λk v h=>by
  rcases wG h with ⟨i,t,rfl,rfl⟩ | ⟨x,t,rfl,rfl⟩ <;> rfl
 pyHash:=λhv h=>by
  rcases wG hv with ⟨i,t,rfl,rfl⟩ | ⟨x,t,rfl,rfl⟩
  ·exact wpAny_pyHash_int h
  ·exact wpAny_pyHash_str h
 eqBool:=λhu hv h=>by
  rcases wG hu with ⟨i,t,rfl,rfl⟩ | ⟨x,t,rfl,rfl⟩
  ·rcases wG hv with ⟨j,u,rfl,rfl⟩ | ⟨y,u,rfl,rfl⟩
   ·rw [N5] at h;exact wpAny_eqBool_int h
   ·rw [N4] at h;exact SeqAt.EqAt.int_str i t y u _ _ _ _ h
  ·rcases wG hv with ⟨j,u,rfl,rfl⟩ | ⟨y,u,rfl,rfl⟩
   ·rw [N3] at h;exact SeqAt.EqAt.str_int x t j u _ _ _ _ h
   ·rw [N1] at h;exact wpAny_eqBool_str h
 «strs»:=λk x t v h=>by
  rcases wG h with ⟨i,u,rfl,e⟩ | ⟨y,u,rfl,e⟩
  ·exact nomatch e
  ·injection e with e1 _
   subst e1;cases v <;> rfl
theorem oU (prog:Program)(w:World)(i:Int)(t:Tok):(bH prog w).is (.inl i) (.int i t)=true:=uz i t
theorem oS (prog:Program)(w:World)(x:Str)(t:Tok):(bH prog w).is (.inr x) (.str x t)=true:=uy x t
inductive V where
 | bG | bl (b:Bool) | int (i:Int) | str (x:Str) | sS (b:Array UInt8) | OJ (b:UInt64) | ref (a:Addr) | ty (n:String)
 deriving DecidableEq
def RelV:V->Value->Prop
 | .bG,u=>u=Value.none
 | .bl b,u=>u=Value.bool b
 | .int i,u=>∃ t,u=Value.int i t
 | .str x,u=>∃ t,u=Value.str x t
 | .sS b,u=>∃ t,u=Value.bytes b t
 | .OJ b,u=>∃ t,u=Value.float b t
 | .ref a,u=>u=Value.ref a
 | .ty n,u=>u=Value.type n
abbrev Vals:List V->List Value->Prop:=Paired RelV
theorem Vals.length {xs:List V}{us:List Value}(r:Vals xs us):xs.length=us.length:=Paired.length r
theorem Vals.get:∀ {xs:List V}{us:List Value}{i:Nat}{x:V},Vals xs us->xs[i]?=some x->∃ u,us[i]?=some u/\RelV x u
 | _,_,_,_,.nil,e=>by simp at e
 | _,_,0,_,.cons r _,e=>by simp at e;subst e;exact ⟨_,rfl,r⟩
 | _,_,i + 1,x,.cons _ t,e=>by
  obtain ⟨u,h1,h2⟩:=Vals.get (i:=i) (x:=x) t (by simpa using e);exact ⟨u,by simpa using h1,h2⟩
theorem Vals.set {x:V}{u:Value}(r:RelV x u):∀ {xs:List V}{us:List Value} (i:Nat),Vals xs us->Vals (xs.set i x) (us.set i u)
 | _,_,_,.nil=>.nil
 | _,_,0,.cons _ t=>.cons r t
 | _,_,i + 1,.cons q t=>.cons q (Vals.set r i t)
theorem Vals.append:∀ {xs ys:List V}{us ws:List Value},Vals xs us->Vals ys ws->Vals (xs++ys) (us++ws)
 | _,_,_,_,.nil,s=>s
 | _,_,_,_,.cons r t,s=>.cons r (Vals.append t s)
theorem Vals.take:∀ {xs:List V}{us:List Value} (n:Nat),Vals xs us->Vals (xs.take n) (us.take n)
 | _,_,0,_=>.nil
 | _,_,_ + 1,.nil=>.nil
 | _,_,n + 1,.cons r t=>.cons r (Vals.take n t)
theorem Vals.drop:∀ {xs:List V}{us:List Value} (n:Nat),Vals xs us->Vals (xs.drop n) (us.drop n)
 | _,_,0,r=>r
 | _,_,_ + 1,.nil=>.nil
 | _,_,n + 1,.cons _ t=>Vals.drop n t
def kO:Option V->Option Value->Prop
 | some v,some u=>RelV v u
 | none,none=>True
 | _,_=>False
def KV {κ:Type}:List (κ×V)->List (κ×Value)->Prop:=Paired λ(p:κ×V) (q:κ×Value)=>p.1=q.1/\RelV p.2 q.2
def kV:Key->V
 | .inl i=>.int i
 | .inr x=>.str x
inductive HO where
  | lst (xs:List V)
  | tup (xs:List V)
  | dK (aE:List (Key×V)) | dT (aE:List (List Key×V))
  | set (S:Int->Bool) (n:Nat)
  | ins (C dx:Addr) (fs:List (Str×V))
  | own (x:Addr)
  | xd (fs:List (Str×V))
  | met (f x:Addr)
  | RT (lo hi:Int)
  | ni (o:Obj) (u:HO)
  | jr (ps:Array Value)
  | ext (φ:Heap->Prop)
abbrev Hp:=Addr->Option HO
def upd (H:Hp)(a:Addr)(o:HO):Hp:=λb=>if b=a then some o else H b
theorem xN {H:Hp}{a:Addr}{o:HO}:upd H a o a=some o:=by unfold upd;rw [if_pos rfl]
theorem xR {H:Hp}{a b:Addr}{o:HO}(h:b≠a):upd H a o b=H b:=by unfold upd;rw [if_neg h]
theorem bY {H:Hp}{a b:Addr}{o u:HO}(h:H a=some o)(h':H b=some u)(d:o≠u):a≠b:=by intro e;subst e;rw [h] at h';exact d (Option.some.inj h')
theorem xQ {H:Hp}{a b:Addr}{o:HO}(h:H a=some o)(h':H b=none):a≠b:=by intro e;subst e;rw [h] at h';cases h'
theorem j5 {h:Heap}{o:Obj}(hf:o.isFreed=false:=by rfl)(hd:o.dict=none:=by rfl):∀ ob,(h.push o).get? h.objs.size=some ob->ob.dict=none:=λob e=>by
 rw [Heap.get?_push_size h hf] at e;cases e;exact hd
section
variable (P:Program) (w:World)
def aY (H:Hp)(h:Heap)(a:Addr):HO->Prop
 | .lst xs=>xs.length<=sizeLine/\∃ (au:List Value) (n:Nat),Vals xs au/\h.get? a=some { cls:=.type "list", data:=.seq au.toArray n }
 | .tup xs=>(xs.length<=sizeLine/\∀ ob,h.get? a=some ob->ob.dict=none)/\∃ au:List Value,Vals xs au/\IsTup h a au.toArray
 | .dK aE=>aE.length<=sizeLine/\(a == sysModules)=false/\∃ vs,KV aE vs/\h.DictOf (bH P w) a vs
 | .dT aE=>aE.length<=sizeLine/\(a == sysModules)=false/\∃ xs:List (List Key×Addr×Value),
   Paired (λ(p:List Key×V) (q:List Key×Addr×Value)=>p.1=q.1/\H q.2.1=some (.tup (p.1.map kV))/\RelV p.2 q.2.2) aE xs /\
   ∃ o es ep,h.get? a=some o/\o.ExactDict/\o.data=.dict es ep/\es.toList=xs.map (entryOfKey (tupleKind (bH P w)))/\(xs.map (·.1)).Nodup
 | .set S n=>h.SetOf (intKind P w) a S n
 | .ins C dx fs=>H dx=some (.own a)/\fs.length<=1000/\dx≠a/\h.get? a=some (PySem.W.instObj C dx) /\
   ∃ mA,h.Ns1 dx mA/\(∀ f,kO (fs.lookup f) (mA f))/\PySem.Within mA (fs.map (·.1))
 | .own _=>∃ o,h.get? a=some o
 | .xd fs=>∃ mA,h.Ns1 a mA/\∀ f,kO (fs.lookup f) (mA f)
 | .RT lo hi=>∃ t u v,h.get? a=some { cls:=.type "range", data:=.fields #[.int lo t,.int hi u,.int 1 v] }
 | .ni o u=>h.get? a=some o/\aY H h a u
 | .jr ps=>h.get? a=some { cls:=.none,data:=.fields ps }
 | .met f x=>h.get? a=some (PySem.W.methodObj (.ref f) (.ref x))
 | .ext φ=>φ h/\(∃ o,h.get? a=some o)/\∀ h1 h2:Heap,φ h1->(∀ o,h1.get? a=some o->h2.get? a=some o)->φ h2
def fP (H:Hp)(h:Heap):Prop:=∀ a o,H a=some o->aY P w H h a o
end
section
variable {P:Program}{w:World}{H H':Hp}{h h':Heap}{a:Addr}{o:HO}
theorem aY.lt (x:aY P w H h a o):a < h.objs.size:=by
 cases o with
 | lst xs=>obtain ⟨_,_,_,_,e⟩:=x;exact Heap.lt_size e
 | tup xs=>obtain ⟨_,_,_,p⟩:=x;exact p.lt
 | dK aE=>obtain ⟨_,_,_,_,o,_,_,e,_⟩:=x;exact Heap.lt_size e
 | dT aE=>obtain ⟨_,_,_,_,o,_,_,e,_⟩:=x;exact Heap.lt_size e
 | set S n=>obtain ⟨o,_,_,_,e,_⟩:=x;exact Heap.lt_size e
 | ins C dx fs=>obtain ⟨_,_,_,e,_⟩:=x;exact Heap.lt_size e
 | own y=>obtain ⟨_,e⟩:=x;exact Heap.lt_size e
 | xd fs=>obtain ⟨_,⟨_,_,_,e,_⟩,_⟩:=x;exact Heap.lt_size e
 | RT lo hi=>obtain ⟨_,_,_,e⟩:=x;exact Heap.lt_size e
 | ni ob u=>obtain ⟨e,_⟩:=x;exact Heap.lt_size e
 | jr ps=>exact Heap.lt_size (show h.get? a=some _ from x)
 | met f y=>exact Heap.lt_size (show h.get? a=some _ from x)
 | ext φ=>obtain ⟨_,⟨_,e⟩,_⟩:=x;exact Heap.lt_size e
theorem Paired.NU {α β:Type}{F G:α->β->Prop}:∀ {Qz:List α}{Qy:List β},Paired F Qz Qy->(∀ a b,F a b->G a b)->Paired G Qz Qy
 | _,_,.nil,_=>.nil
 | _,_,.cons r t,f=>.cons (f _ _ r) (Paired.NU t f)
theorem aY.gA (x:aY P w H h a o)(k:∀ b u,(b=a\/H b=some (.own a))->h.get? b=some u->h'.get? b=some u)
  (ho:∀ b,H b=some (.own a)->H' b=some (.own a)) (ht:∀ b xs,H b=some (.tup xs)->H' b=some (.tup xs)):aY P w H' h' a o:=by
 induction o with
 | lst xs=>obtain ⟨z,au,n,r,e⟩:=x;exact ⟨z,au,n,r,k _ _ (.inl rfl) e⟩
 | tup xs=>obtain ⟨z,au,r,ob,e,c⟩:=x;exact ⟨⟨z.1,λob' e'=>by rw [k _ _ (.inl rfl) e] at e';cases e';exact z.2 _ e⟩,au,r,ob,k _ _ (.inl rfl) e,c⟩
 | dK aE=>obtain ⟨z,y,vs,r,ob,es,ep,e,c⟩:=x;exact ⟨z,y,vs,r,ob,es,ep,k _ _ (.inl rfl) e,c⟩
 | dT aE=>
  obtain ⟨z,y,xs,r,ob,es,ep,e,c⟩:=x;exact ⟨z,y,xs,Paired.NU r λp q z=>⟨z.1,ht _ _ z.2.1,z.2.2⟩,ob,es,ep,k _ _ (.inl rfl) e,c⟩
 | set S n=>obtain ⟨ob,es,ep,t,e,c⟩:=x;exact ⟨ob,es,ep,t,k _ _ (.inl rfl) e,c⟩
 | ins C dx fs=>
  obtain ⟨d,z,ne,e,mA,⟨od,es,ep,e2,c⟩,r⟩:=x;exact ⟨ho _ d,z,ne,k _ _ (.inl rfl) e,mA,⟨od,es,ep,k _ _ (.inr d) e2,c⟩,r⟩
 | own y=>obtain ⟨ob,e⟩:=x;exact ⟨ob,k _ _ (.inl rfl) e⟩
 | xd fs=>obtain ⟨mA,⟨od,es,ep,e,c⟩,r⟩:=x;exact ⟨mA,⟨od,es,ep,k _ _ (.inl rfl) e,c⟩,r⟩
 | RT lo hi=>obtain ⟨t,u,v,e⟩:=x;exact ⟨t,u,v,k _ _ (.inl rfl) e⟩
 | ni ob u ih=>obtain ⟨e,q⟩:=x;exact ⟨k _ _ (.inl rfl) e,ih q⟩
 | jr ps=>
  have e:h.get? a=some { cls:=.none,data:=.fields ps }:=x;show h'.get? a=some { cls:=.none,data:=.fields ps };exact k a _ (.inl rfl) e
 | met f y=>
  have e:h.get? a=some (PySem.W.methodObj (.ref f) (.ref y)):=x;show h'.get? a=some (PySem.W.methodObj (.ref f) (.ref y));exact k a _ (.inl rfl) e
 | ext φ=>obtain ⟨p,⟨o,e⟩,st⟩:=x;exact ⟨st _ _ p λo q=>k _ _ (.inl rfl) q,⟨o,k _ _ (.inl rfl) e⟩,st⟩
theorem fP.lt (x:fP P w H h)(e:H a=some o):a < h.objs.size:=(x a o e).lt
theorem fP.fresh (x:fP P w H h)(e:h.objs.size<=a):H a=none:=by
 cases q:H a with
 | none=>rfl
 | some u=>exact absurd (zR (x.lt q) e) (zy _)
theorem fP.kept (x:fP P w H h)(k:∀ b u,h.get? b=some u->h'.get? b=some u):fP P w H h':=λa o e=>
 (x a o e).gA (λb u _ q=>k b u q) (λ_ q=>q) λ_ _ q=>q
theorem fP.laid (x:fP P w H h)(k:∀ b u,h.get? b=some u->h'.get? b=some u)(hp:h.objs.size<=a)(new:aY P w (upd H a o) h' a o):fP P w (upd H a o) h':=λb u e=>by
 have hn:=x.fresh hp;by_cases hb:b=a
 ·subst hb;rw [xN] at e;cases e;exact new
 ·rw [xR hb] at e;exact (x b u e).gA (λc v _ q=>k c v q) (λc q=>by rw [xR (xQ q hn)];exact q) λc xs q=>by rw [xR (xQ q hn)];exact q
end
def Rd (H:Hp)(a:Addr)(u:HO):Prop:=H a=some u\/∃ o,H a=some (.ni o u)
theorem Rd.ok {P:Program}{w:World}{H:Hp}{h:Heap}{a:Addr}{u:HO}(r:Rd H a u)(x:fP P w H h):aY P w H h a u:=by
 rcases r with r | ⟨o,r⟩
 ·exact x a u r
 ·obtain ⟨_,q⟩:=x a _ r;exact q
def RC:Option HO->Prop
 | some (.lst _)=>True
 | some (.dK _)=>True
 | some (.dT _)=>True
 | some (.set _ _)=>True
 | some (.ins _ _ _)=>True
 | some (.ext _)=>True
 | _=>False
section
variable {P:Program}{w:World}{H:Hp}{h h':Heap}{x e:Addr}{o':HO}
theorem fP.write (ok:fP P w H h)(mu:RC (H x))(he:e=x\/H e=some (.own x))(k:∀ b u,b≠e->h.get? b=some u->h'.get? b=some u)(Px:∃ u,h'.get? e=some u)
  (new:aY P w (upd H x o') h' x o'):fP P w (upd H x o') h':=λb u q=>by
 have Qm:∀ c y,H c=some (.own y)->c≠x:=λc y r z=>by subst z;rw [r] at mu;exact mu
 have UE:∀ c xs,H c=some (.tup xs)->c≠x:=λc xs r z=>by subst z;rw [r] at mu;exact mu
 by_cases hb:b=x
 ·subst hb;rw [xN] at q;cases q;exact new
 ·rw [xR hb] at q;by_cases Ou:b=e
  ·have q':H b=some (.own x):=by
    rcases he with z | z
    ·exact absurd (Ou.trans z) hb
    ·rw [Ou];exact z
   rw [q] at q';cases q';obtain ⟨v,hv⟩:=Px;exact ⟨v,by rw [Ou];exact hv⟩
  ·refine (ok b u q).gA (λc v hc r=>k c v ?_ r) (λc r=>by rw [xR (Qm c b r)];exact r) λc xs r=>by rw [xR (UE c xs r)];exact r
   rcases hc with rfl | hc
   ·exact Ou
   ·rintro rfl;rcases he with z | z
    ·exact Qm c b hc z
    ·rw [hc] at z;cases z;exact hb rfl
end
structure Un (fs ex:List Addr) (H H':Hp) (h h':Heap):Prop where
 keep:∀ b o,h.get? b=some o->H b=none->b ∉ fs->b ∉ ex->h'.get? b=some o
 slot:∀ b o,h.get? b=some o->H b=none->b∈fs->b ∉ ex->∃ sl,h'.get? b=some { o with slots:=sl }
 free:∀ b o,h.get? b=some o->H b=none->b ∉ ex->H' b=none
 there:∀ b o,h.get? b=some o->b ∉ ex->∃ o',h'.get? b=some o'
 aR:∀ b xs,H b=some (.tup xs)->H' b=some (.tup xs)
 kj:∀ b o u,H b=some (.ni o u)->H' b=some (.ni o u)
 jI:∀ b ps,H b=some (.jr ps)->∃ more,H' b=some (.jr (ps++more))
section
variable {fs fs' ex ex':List Addr} {H H1 H2:Hp} {h h1 h2 h':Heap}{a x e:Addr}{o:HO}
theorem Un.any (u:Un fs ex H H1 h h1){b:Addr}{ob:Obj}(q:h.get? b=some ob)(n:H b=none)(hx:b ∉ ex):∃ sl,h1.get? b=some { ob with slots:=sl }:=by
 by_cases hb:b∈fs
 ·exact u.slot b ob q n hb hx
 ·exact ⟨ob.slots,u.keep b ob q n hb hx⟩
theorem Un.kept (k:∀ b u,h.get? b=some u->h'.get? b=some u):Un fs ex H H h h':=
 ⟨λb ob q _ _ _=>k b ob q,λb ob q _ _ _=>⟨ob.slots,k b ob q⟩,λ_ _ _ n _=>n,λb ob q _=>⟨ob,k b ob q⟩,λ_ _ q=>q,λ_ _ _ q=>q,λ_ ps q=>⟨#[],by rw [q];simp⟩⟩
theorem Un.refl:Un fs ex H H h h:=Un.kept λ_ _ q=>q
theorem Un.laid (k:∀ b u,h.get? b=some u->h'.get? b=some u)(hp:h.objs.size<=a)(hn:H a=none):Un fs ex H (upd H a o) h h' where
 keep:=λb u q _ _ _=>k b u q
 slot:=λb u q _ _ _=>⟨u.slots,k b u q⟩
 free:=λb u q n _=>by rw [xR (zU (zR (Heap.lt_size q) hp))];exact n
 there:=λb u q _=>⟨u,k b u q⟩
 aR:=λb xs q=>by rw [xR (xQ q hn)];exact q
 kj:=λb u xs q=>by rw [xR (xQ q hn)];exact q
 jI:=λb ps q=>⟨#[],by rw [xR (xQ q hn),q];simp⟩
theorem Un.write (mu:RC (H x))(he:e=x\/H e=some (.own x))(k:∀ b u,b≠e->h.get? b=some u->h'.get? b=some u)(Px:∃ u,h'.get? e=some u):Un fs ex H (upd H x o) h h':=by
 have hx:∀ b,H b=none->b≠x:=λb n z=>by subst z;rw [n] at mu;exact mu
 have hb:∀ b,H b=none->b≠e:=λb n z=>by
  subst z;rcases he with r | r
  ·exact hx b n r
  ·rw [n] at r;cases r
 have hm:∀ b u,H b=some u->¬ RC (some u)->b≠x:=λb u q nm z=>by subst z;rw [q] at mu;exact nm mu
 refine ⟨λb u q n _ _=>k b u (hb b n) q,λb u q n _ _=>⟨u.slots,k b u (hb b n) q⟩,λb u q n _=>by rw [xR (hx b n)];exact n,λb u q _=>?_,
  λb xs q=>by rw [xR (hm b _ q λz=>z)];exact q,λb u xs q=>by rw [xR (hm b _ q λz=>z)];exact q,λb ps q=>⟨#[],by rw [xR (hm b _ q λz=>z),q];simp⟩⟩
 by_cases Ou:b=e
 ·subst Ou;exact Px
 ·exact ⟨u,k b u Ou q⟩
end
def RN (h:Heap)(H:Hp):List Addr:=(List.range h.objs.size).filter λa=>(H a).isSome
def lz (h:Heap)(H:Hp):Heap:=PySem.W.hideAll h (RN h H)
theorem uH (h:Heap)(H:Hp):(lz h H).objs.size=h.objs.size:=PySem.W.hideAll_size _ _
theorem J5 {h:Heap}{H:Hp}{b:Addr}{o:Obj}(e:h.get? b=some o)(n:H b=none):(lz h H).get? b=some o:=
 PySem.W.hideAll_get _ e λhm=>by
  have q:(H b).isSome=true:=(List.mem_filter.mp hm).2;rw [n] at q;simp at q
theorem LJ {h:Heap}{H:Hp}{b:Addr}{o:Obj}(e:(lz h H).get? b=some o):h.get? b=some o/\H b=none:=by
 have e':h.get? b=some o:=PySem.W.of_hideAll (RN h H) e;refine ⟨e',?_⟩;cases q:H b with
 | none=>rfl
 | some x=>
  have hm:b∈RN h H:=List.mem_filter.mpr ⟨zj.mpr (Heap.lt_size e'),by simp [q]⟩;have z:(lz h H).get? b=none:=PySem.W.hideAll_none (RN h H) hm;rw [z] at e;cases e
def eW (g h:Heap)(L:Addr):List (Addr×Obj):=(List.range h.objs.size).filterMap λa=>if a=L\/(g.get? a).isSome=true then none else (h.get? a).map λo=>(a,o)
theorem di {g h:Heap}{L a:Addr}{o:Obj}(h1:a≠L)(h2:g.get? a=none)(h3:h.get? a=some o):(a,o)∈eW g h L:=
 yb.mpr ⟨a,zj.mpr (Heap.lt_size h3),by simp [h1,h2,h3]⟩
theorem j3 {g h:Heap}{L:Addr}{p:Addr×Obj}(hp:p∈eW g h L):p.1≠L/\g.get? p.1=none/\h.get? p.1=some p.2:=by
 obtain ⟨b,_,e⟩:=yb.mp hp;split at e
 ·cases e
 ·rename_i hn;cases q:h.get? b with
  | none=>rw [q] at e;simp at e
  | some u=>
   rw [q] at e;simp only [ye,Option.some.injEq] at e;subst e;refine ⟨λz=>hn (.inl z),?_,q⟩;show g.get? b=none;cases r:g.get? b with
   | none=>rfl
   | some v=>exact (hn (.inr (by simp [r]))).elim
def rest (g h:Heap)(L d:Addr):List (Addr×Obj):=(eW g h L).filter λp=>decide (p.1≠d)
theorem oR {g h:Heap}{L:Addr}:News g L h (eW g h L):=λp hp=>let ⟨a,b,c⟩:=j3 hp;⟨c,a,b⟩
structure Mod (K:PySem.W.Frag) (mg:Str->Option Value) (base:Heap):Prop where
 UT:K.In base
 glob:base.Ns mainGlobals mg
 blt:∃ mb,base.Ns builtinsNs mb/\∀ x:Str,x ≠ "__name__" -> mb x=bootBuiltins x
 nolimit:base.NoLimit
structure Cx where
 prog:Program
 w:World
 K:PySem.W.Frag
 mg:Str->Option Value
 base:Heap
 A:Around
 N:List Str
 cL:Shared
 uW:Hp
 env:Env
 outer:List Env
 stack:List Env
 ex:List Addr
 fn:Str->Bool
 calm:Bool
 pn:List (Addr×Obj)
 xe:Value->Shared->Prop
def u9 (l:List Env):List Addr:=l.filterMap (·.frame)
abbrev Cx.fs (X:Cx):List Addr:=u9 X.outer
def Sx (sc:Scope)(x:Str):Prop:=sc.names.lookup x=some .local\/sc.names.lookup x=some .cell\/sc.names.lookup x=some .free
def Loc (sc:Scope)(x:Str):Prop:=sc.names.lookup x=some .local\/sc.names.lookup x=some .cell
def Look (env:Env)(h:Heap)(m:Str->Option Value)(x:Str)(u:Value):Prop:=
 (env.kindOf x=some .local/\m x=some u)\/((env.kindOf x=some .cell\/env.kindOf x=some .free)/\∃ c,env.cells.lookup x=some c/\h.IsCell c (some u))
structure Cx.Ok (X:Cx):Prop where
 mod:Mod X.K X.mg X.base
 kind:X.env.scope.kind=.function
 glob:X.env.globals=mainGlobals
 blt:X.env.builtins=builtinsNs
 above:X.cL.heap.objs.size<=X.env.locals
 inj:∀ x y c,X.env.cells.lookup x=some c->X.env.cells.lookup y=some c->x=y
 has:∀ x,(X.env.kindOf x=some .cell\/X.env.kindOf x=some .free)->∃ c,X.env.cells.lookup x=some c
 Rq:∀ x c,X.fn x=true->X.env.cells.lookup x=some c->X.cL.heap.objs.size<=c
 hd:X.calm=true->X.A.handled=none
 frames:X.A.frames=some X.stack
 Lf:X.stack=X.outer\/(X.stack=X.env::X.outer/\X.env.frame=some X.env.locals)
 XT:∀ b∈X.ex,b≠X.env.locals/\∀ x c,X.env.cells.lookup x=some c->c≠b
 bs:∀ b o,X.base.get? b=some o->X.cL.heap.get? b=some o/\X.uW b=none
 Ky:X.base.objs.size<=X.cL.heap.objs.size
 JF:∀ b o,X.base.get? b=some o->b ∉ X.ex
 Mi:∀ b∈X.ex,b ∉ X.fs
 iY:X.cL.heap.FunFrames X.base X.outer
 OG:∀ b∈X.fs,X.uW b=none
structure Inv (X:Cx) (aa:List (Addr×Obj)) (σ:List (Option V)) (H:Hp) (s:Shared):Prop where
 ok:X.Ok
 os:s.os=X.cL.os
 bare:AllBare s.gens
 base:Un X.fs X.ex X.uW H X.cL.heap s.heap
 loc:∃ m,s.heap.Ns X.env.locals m/\∀ (i:Nat) (x:Str) (v:V),X.N[i]?=some x->σ[i]?=some (some v)->Sx X.env.scope x->∃ u,RelV v u/\Look X.env s.heap m x u
 cell:∀ x c,X.env.cells.lookup x=some c->∃ v,s.heap.IsCell c v
 free:H X.env.locals=none
 fK:∀ x c,X.env.cells.lookup x=some c->H c=none
 pin:∀ p∈X.pn++aa,s.heap.get? p.1=some p.2/\H p.1=none/\p.1≠X.env.locals/\p.1 ∉ X.fs/\∀ v,p.2.data≠.cell v
 br:fP X.prog X.w H s.heap
 len:σ.length=X.N.length
section
variable {X:Cx}{aa:List (Addr×Obj)}{σ:List (Option V)}{H H':Hp}{s:Shared}{h':Heap}
theorem Cx.Ok.UG (ok:X.Ok){b:Addr}{o:Obj}(e:X.base.get? b=some o):b ∉ X.fs:=λhb=>by
 have:=(ok.iY.mem hb).1;rw [e] at this;cases this
theorem Inv.bs (I:Inv X aa σ H s):∀ b o,X.base.get? b=some o->s.heap.get? b=some o/\H b=none:=λb o e=>
 ⟨I.base.keep b o (I.ok.bs b o e).1 (I.ok.bs b o e).2 (I.ok.UG e) (I.ok.JF b o e),I.base.free b o (I.ok.bs b o e).1 (I.ok.bs b o e).2 (I.ok.JF b o e)⟩
theorem Inv.bk (I:Inv X aa σ H s):∀ b o,X.base.get? b=some o->s.heap.get? b=some o:=λb o e=>(I.bs b o e).1
theorem Inv.mod (I:Inv X aa σ H s):Mod X.K X.mg X.base:=I.ok.mod
theorem Inv.nU (I:Inv X aa σ H s):X.K.In s.heap:=I.ok.mod.UT.keeps I.bk
theorem Inv.nolimit (I:Inv X aa σ H s):s.heap.NoLimit:=I.ok.mod.nolimit.keeps I.bk
theorem Inv.fr (I:Inv X aa σ H s):∃ m,Fr X.base X.env.locals s.heap m:=
 let ⟨m,hn,_⟩:=I.loc
 ⟨m,hn,I.bk,zu I.ok.Ky I.ok.above⟩
theorem Inv.lt (I:Inv X aa σ H s):X.env.locals < s.heap.objs.size:=let ⟨_,hn,_⟩:=I.loc;hn.lt
theorem Inv.sz (I:Inv X aa σ H s):X.cL.heap.objs.size<=s.heap.objs.size:=zu I.ok.above (xH I.lt)
theorem Inv.Qn (I:Inv X aa σ H s){a:Addr}(h:s.heap.objs.size<=a):a ∉ X.fs:=λhb=>by
 obtain ⟨_,o,ho,_⟩:=I.ok.iY.mem hb;exact absurd (zR (Heap.lt_size ho) (zu I.sz h)) (zy _)
theorem Inv.OV (I:Inv X aa σ H s):∀ x c,X.env.cells.lookup x=some c->c≠X.env.locals:=λx c e z=>by
 obtain ⟨v,o,ho,hd⟩:=I.cell x c e;obtain ⟨m,⟨o',es,ep,o8,Ma,_⟩,_⟩:=I.loc;rw [z,o8] at ho;cases ho;rw [Ma] at hd;cases hd
theorem Inv.iY (I:Inv X aa σ H s):s.heap.FunFrames X.base X.outer:=by
 have all:∀ (l:List Env),(∀ b∈u9 l,b∈X.fs)->X.cL.heap.FunFrames X.base l->s.heap.FunFrames X.base l:=by
  intro l;induction l with
  | nil=>intro _ _;trivial
  | cons env r ih=>
   intro hs hl;obtain ⟨hk,⟨L,o,hf,hn,ho,hd⟩,hr⟩:=hl;have hL:L∈X.fs:=hs L (by unfold u9;rw [yj,hf];exact yJ);obtain ⟨sl,e⟩:=I.base.slot L o ho (I.ok.OG L hL) hL λz=>I.ok.Mi L z hL;exact ⟨hk,⟨L,_,hf,hn,e,hd⟩,ih (λb hb=>hs b (by unfold u9;rw [yj,hf];exact zp _ hb)) hr⟩
 exact all X.outer (λ_ hb=>hb) I.ok.iY
theorem Inv.stack (I:Inv X aa σ H s):s.heap.FunFrames X.base X.stack:=by
 rcases I.ok.Lf with e | ⟨e,hf⟩
 ·rw [e];exact I.iY
 ·rw [e];obtain ⟨m,hn,_⟩:=I.loc;refine .cons (by rw [I.ok.kind];decide) hf hn ?_ I.iY;exact Heap.get?_none_of_le (zu I.ok.Ky I.ok.above)
theorem Inv.iN (I:Inv X aa σ H s):∀ b∈u9 X.stack,b∈X.env.locals::X.fs:=λb hb=>by
 rcases I.ok.Lf with e | ⟨e,hf⟩
 ·rw [e] at hb;exact zp _ hb
 ·rw [e] at hb;unfold u9 at hb;rw [yj,hf] at hb;exact hb
theorem Inv.mP (I:Inv X aa σ H s):∀ b∈u9 X.stack,H b=none:=λb hb=>by
 rcases zP.mp (I.iN b hb) with e | hb
 ·rw [e];exact I.free
 ·obtain ⟨_,o,ho,_⟩:=I.ok.iY.mem hb;exact I.base.free b o ho (I.ok.OG b hb) λz=>I.ok.Mi b z hb
theorem Inv.step {g':Array GenState}{t':Nat}{d':Drawn}{ch:List Addr}(I:Inv X aa σ H s)
  (K1:∀ b∈ch,(b∈X.ex\/X.cL.heap.objs.size<=b)/\b≠X.env.locals/\(∀ x c,X.env.cells.lookup x=some c->c≠b)/\∀ p∈X.pn++aa,p.1≠b)
  (keep:∀ b o,b≠X.env.locals->b ∉ X.fs->b ∉ ch->s.heap.get? b=some o->H b=none->h'.get? b=some o)
  (slot:∀ b o,b≠X.env.locals->b∈X.fs->b ∉ ch->s.heap.get? b=some o->H b=none->∃ sl,h'.get? b=some { o with slots:=sl }) (free:∀ b o,b ∉ ch->s.heap.get? b=some o->H b=none->H' b=none)
  (there:∀ b o,b ∉ ch->s.heap.get? b=some o->∃ o',h'.get? b=some o')
  (aR:∀ b xs,H b=some (.tup xs)->H' b=some (.tup xs)) (kj:∀ b o u,H b=some (.ni o u)->H' b=some (.ni o u)) (jI:∀ b ps,H b=some (.jr ps)->∃ more,H' b=some (.jr (ps++more)))
  (ns:∀ m,s.heap.Ns X.env.locals m->h'.Ns X.env.locals m) (br:fP X.prog X.w H' h') (hg:AllBare g') :
  Inv X aa σ H' { s with heap:=h',gens:=g',drawn:=d',toks:=t' }:=by
 have WG:∀ b o,X.cL.heap.get? b=some o->b≠X.env.locals:=λb o e=>zU (zR (Heap.lt_size e) I.ok.above);have JI:∀ b o,X.cL.heap.get? b=some o->b ∉ X.ex->b ∉ ch:=λb o e hx hb=>by
  rcases (K1 b hb).1 with z | z
  ·exact hx z
  ·exact absurd (zR (Heap.lt_size e) z) (zy _)
 have cellK:∀ x c,X.env.cells.lookup x=some c->∀ v,s.heap.IsCell c v->h'.IsCell c v:=λx c e v ⟨o,ho,hd⟩=>by
  have m5:c ∉ ch:=λz=>(K1 c z).2.2.1 x c e rfl;by_cases hc:c∈X.fs
  ·obtain ⟨sl,q⟩:=slot c o (I.OV x c e) hc m5 ho (I.fK x c e);exact ⟨_,q,hd⟩
  ·exact ⟨o,keep c o (I.OV x c e) hc m5 ho (I.fK x c e),hd⟩
 refine ⟨I.ok,I.os,hg,⟨λb o e n hb hx=>?_,λb o e n hb hx=>?_,λb o e n hx=>?_,λb o e hx=>?_,λb xs e=>aR b xs (I.base.aR b xs e),λb o xs e=>kj b o xs (I.base.kj b o xs e),λb ps e=>?_⟩,?_,λx c e=>?_,?_,λx c e=>?_,λp hp=>?_,br,I.len⟩
 ·exact keep b o (WG b o e) hb (JI b o e hx) (I.base.keep b o e n hb hx) (I.base.free b o e n hx)
 ·obtain ⟨sl,e1⟩:=I.base.slot b o e n hb hx;obtain ⟨Yv,e2⟩:=slot b _ (WG b o e) hb (JI b o e hx) e1 (I.base.free b o e n hx);exact ⟨Yv,e2⟩
 ·obtain ⟨o',e1⟩:=I.base.there b o e hx;exact free b o' (JI b o e hx) e1 (I.base.free b o e n hx)
 ·obtain ⟨o',e1⟩:=I.base.there b o e hx;exact there b o' (JI b o e hx) e1
 ·obtain ⟨m1,e1⟩:=I.base.jI b ps e;obtain ⟨m2,e2⟩:=jI b _ e1;exact ⟨m1++m2,by rw [e2,Array.append_assoc]⟩
 ·obtain ⟨m,hn,hl⟩:=I.loc;refine ⟨m,ns m hn,λi x v e1 e2 e3=>?_⟩;obtain ⟨u,r,l⟩:=hl i x v e1 e2 e3;refine ⟨u,r,?_⟩;rcases l with l | ⟨k,c,e,z⟩
  ·exact .inl l
  ·exact .inr ⟨k,c,e,cellK x c e _ z⟩
 ·obtain ⟨v,z⟩:=I.cell x c e;exact ⟨v,cellK x c e v z⟩
 ·obtain ⟨m,⟨o,_,_,ho,_⟩,_⟩:=I.loc;exact free _ o (λz=>(K1 _ z).2.1 rfl) ho I.free
 ·obtain ⟨v,o,ho,hd⟩:=I.cell x c e;exact free c o (λz=>(K1 c z).2.2.1 x c e rfl) ho (I.fK x c e)
 ·obtain ⟨e,n,ne,nf,d⟩:=I.pin p hp;have m5:p.1 ∉ ch:=λz=>(K1 p.1 z).2.2.2 p hp rfl;exact ⟨keep p.1 p.2 ne nf m5 e n,free p.1 p.2 m5 e n,ne,nf,d⟩
theorem Inv.un {t':Nat}(I:Inv X aa σ H s)(u:Un X.fs [] H H' s.heap h')(br:fP X.prog X.w H' h'):Inv X aa σ H' { s with heap:=h',toks:=t' }:=by
 obtain ⟨m,⟨o,es,ep,ho,r⟩,_⟩:=id I.loc;obtain ⟨sl,hL⟩:=u.any ho I.free (by simp);exact I.step (g':=s.gens) (d':=s.drawn) (ch:=[]) (λ_ z=>nomatch z) (λb o _ hb _ e n=>u.keep b o e n hb (by simp)) (λb o _ hb _ e n=>u.slot b o e n hb (by simp)) (λb o _ e n=>u.free b o e n (by simp)) (λb o _ e=>u.there b o e (by simp)) u.aR u.kj u.jI (λm' hm=>by
  obtain ⟨o',lD,OO,o8,r'⟩:=hm;rw [ho] at o8;cases o8;exact ⟨_,lD,OO,hL,r'⟩) br I.bare
theorem Inv.call {g':Array GenState}{t':Nat}{d':Drawn}{ch:List Addr}(I:Inv X aa σ H s)(u:Un (u9 X.stack) ch H H' s.heap h')(br:fP X.prog X.w H' h')(hg:AllBare g')
  (K1:∀ b∈ch,(b∈X.ex\/X.cL.heap.objs.size<=b)/\b≠X.env.locals/\(∀ x c,X.env.cells.lookup x=some c->c≠b)/\∀ p∈X.pn++aa,p.1≠b) :
  Inv X aa σ H' { s with heap:=h',gens:=g',drawn:=d',toks:=t' }:=by
 obtain ⟨m,⟨o,es,ep,ho,r⟩,_⟩:=id I.loc;obtain ⟨sl,hL⟩:=u.any ho I.free λz=>(K1 _ z).2.1 rfl;exact I.step (ch:=ch) K1 (λb o hL hb hc e n=>u.keep b o e n (λz=>(zP.mp (I.iN b z)).elim hL hb) hc) (λb o _ _ hc e n=>u.any e n hc) (λb o hc e n=>u.free b o e n hc) (λb o hc e=>u.there b o e hc) u.aR u.kj u.jI (λm' hm=>by
  obtain ⟨o',lD,OO,o8,r'⟩:=hm;rw [ho] at o8;cases o8;exact ⟨_,lD,OO,hL,r'⟩) br hg
theorem Inv.turned {t':Nat}{it:Addr}(I:Inv X aa σ H s)(k:∀ b o,b≠it->s.heap.get? b=some o->h'.get? b=some o)(hn:H it=none)(hL:it≠X.env.locals)
  (h1:it∈X.ex\/X.cL.heap.objs.size<=it) (h2:∀ x c,X.env.cells.lookup x=some c->c≠it) (h3:∀ p∈X.pn++aa,p.1≠it):Inv X aa σ H { s with heap:=h',toks:=t' }:=by
 have WE:∀ b u,H b=some u->b≠it:=λb u e z=>by rw [z,hn] at e;cases e
 refine I.step (g':=s.gens) (d':=s.drawn) (ch:=[it]) (λb hb=>?_) (λb o _ _ hc e _=>k b o (λz=>hc (by simp [z])) e) (λb o _ _ hc e _=>⟨o.slots,k b o (λz=>hc (by simp [z])) e⟩) (λ_ _ _ _ n=>n)
  (λb o hc e=>⟨o,k b o (λz=>hc (by simp [z])) e⟩) (λ_ _ e=>e) (λ_ _ _ e=>e) (λb ps e=>⟨#[],by rw [e];simp⟩) (λm hm=>?_) (λb u e=>?_) I.bare
 ·have e:b=it:=by simpa using hb
  subst e;exact ⟨h1,hL,h2,h3⟩
 ·obtain ⟨o,es,ep,ho,r⟩:=hm;exact ⟨o,es,ep,k _ o (Ne.symm hL) ho,r⟩
 ·refine (I.br b u e).gA (λc v hc q=>k c v ?_ q) (λ_ q=>q) λ_ _ q=>q;rcases hc with z | z
  ·rw [z];exact WE b u e
  ·exact WE c _ z
theorem Inv.tok (I:Inv X aa σ H s)(t:Nat):Inv X aa σ H { s with toks:=t }:=I.un (h':=s.heap) (t':=t) Un.refl I.br
theorem Inv.kept {t':Nat}(I:Inv X aa σ H s)(k:∀ b u,s.heap.get? b=some u->h'.get? b=some u):Inv X aa σ H { s with heap:=h',toks:=t' }:=I.un (Un.kept k) (I.br.kept k)
theorem Inv.laid {a:Addr}{o:HO}{t':Nat}(I:Inv X aa σ H s)(k:∀ b u,s.heap.get? b=some u->h'.get? b=some u)(hp:s.heap.objs.size<=a)(new:aY X.prog X.w (upd H a o) h' a o) :
  Inv X aa σ (upd H a o) { s with heap:=h',toks:=t' }:=I.un (Un.laid k hp (I.br.fresh hp)) (I.br.laid k hp new)
theorem Inv.write {x e:Addr}{o:HO}{t':Nat}(I:Inv X aa σ H s)(mu:RC (H x))(he:e=x\/H e=some (.own x))(k:∀ b u,b≠e->s.heap.get? b=some u->h'.get? b=some u)(Px:∃ u,h'.get? e=some u)
  (new:aY X.prog X.w (upd H x o) h' x o):Inv X aa σ (upd H x o) { s with heap:=h',toks:=t' }:=I.un (Un.write mu he k Px) (I.br.write mu he k Px new)
theorem Inv.bO {dJ:List (Addr×Obj)}(I:Inv X aa σ H s)(h:∀ p∈dJ,s.heap.get? p.1=some p.2/\H p.1=none/\p.1≠X.env.locals/\p.1 ∉ X.fs/\∀ v,p.2.data≠.cell v):Inv X dJ σ H s:=
 ⟨I.ok,I.os,I.bare,I.base,I.loc,I.cell,I.free,I.fK,λp hp=>(zQ.mp hp).elim (λz=>I.pin p (zT _ z)) (h p),I.br,I.len⟩
theorem oQ {N:List Str}(hN:N.Nodup){i j:Nat}{x:Str}(a:N[i]?=some x)(b:N[j]?=some x):i=j:=by obtain ⟨h1,e1⟩:=zC.mp a;obtain ⟨h2,e2⟩:=zC.mp b;exact (List.getElem_inj hN).mp (e1.trans e2.symm)
def JM (sc:Scope)(x:Str):Bool:=match sc.names.lookup x with | some .local=>true | some .cell=>true | _=>false
theorem m8 {sc:Scope}{x:Str}(h:JM sc x=true):Loc sc x:=by
 unfold JM at h;unfold Loc
 revert h
 cases sc.names.lookup x with
 | none=>intro h;cases h
 | some k=>cases k <;> intro h <;> first | exact .inl rfl | exact .inr rfl | cases h
def ko (X:Cx)(x:Str):Bool:=X.fn x || (match X.env.scope.names.lookup x with | some .local=>true | _=>false)
theorem Kf {X:Cx}{x:Str}(h:ko X x=true):X.fn x=true\/X.env.scope.names.lookup x=some .local:=by
 unfold ko at h;cases e:X.fn x with
 | true=>exact .inl rfl
 | false=>
  rw [e,Bool.false_or] at h
  revert h
  cases X.env.scope.names.lookup x with
  | none=>intro h;cases h
  | some k=>cases k <;> intro h <;> first | exact .inr rfl | cases h
def M5 (sc:Scope)(x:Str):Bool:=match sc.names.lookup x with | some .local=>true | some .cell=>true | some .free=>true | _=>false
theorem K6 {sc:Scope}{x:Str}(h:M5 sc x=true):Sx sc x:=by
 unfold M5 at h;unfold Sx
 revert h
 cases sc.names.lookup x with
 | none=>intro h;cases h
 | some k=>cases k <;> intro h <;> first | exact .inl rfl | exact .inr (.inl rfl) | exact .inr (.inr rfl) | cases h
theorem tO {M:Model}{A:Around}{E:Value->Shared->Prop}{i:Nat}{x:Str}{v:V}{u:Value}{Q:Unit->Shared->Prop}(I:Inv X aa σ H s)(hN:X.N.Nodup)(hi:X.N[i]?=some x)(hx:Loc X.env.scope x)(r:RelV v u)
  (h:∀ s',Inv X aa (σ.set i (some v)) H s'->(∃ a,Heap.SameBut a s.heap s'.heap/\(a=X.env.locals\/X.env.cells.lookup x=some a))->Q () s') (hf:ko X x=true:=by rfl):wpAny M A (storeName X.env x u) Q E s:=by
 have hf:=Kf hf;obtain ⟨m,hn,hl⟩:=id I.loc;have VG:(X.env.scope.kind == .class || (X.env.scope.kind == .module && X.env.locals != X.env.globals))=false:=by rw [I.ok.kind];rfl
 have Q4:i < σ.length:=by rw [I.len];exact (zC.mp hi).1
 have OV:=I.OV;have tracked:∀ {a:Addr}{h':Heap},(∃ o,s.heap.get? a=some o/\H a=none)->Heap.SameBut a s.heap h'->fP X.prog X.w H h':=λ{a h'} ha hs b ob e=>by
  obtain ⟨_,_,MG⟩:=ha;refine (I.br b ob e).gA (λc w' hc q=>(hs.2 c ?_).trans q) (λ_ q=>q) λ_ _ q=>q;rintro rfl;rcases hc with rfl | hc
  ·rw [MG] at e;cases e
  ·rw [MG] at hc;cases hc
 rcases hx with hk | hk
 ·refine wpAny_storeName_local hk hn (λh' Xd hs=>?_) VG;obtain ⟨oL,_,_,ZE,_⟩:=id hn;refine h _ ⟨I.ok,I.os,I.bare,⟨λb o e n hb hx=>?_,λb o e n hb hx=>?_,I.base.free,λb o e hx=>?_,I.base.aR,I.base.kj,I.base.jI⟩,⟨_,Xd,λj y v' e1 e2 e3=>?_⟩,λy c e=>?_,I.free,I.fK,λp hp=>?_,tracked ⟨oL,ZE,I.free⟩ hs,by simpa using I.len⟩ ⟨_,hs,.inl rfl⟩
  ·exact (hs.2 b (zU (zR (Heap.lt_size e) I.ok.above))).trans (I.base.keep b o e n hb hx)
  ·obtain ⟨sl,e1⟩:=I.base.slot b o e n hb hx;exact ⟨sl,(hs.2 b (zU (zR (Heap.lt_size e) I.ok.above))).trans e1⟩
  ·obtain ⟨o',e1⟩:=I.base.there b o e hx;exact ⟨o',(hs.2 b (zU (zR (Heap.lt_size e) I.ok.above))).trans e1⟩
  ·by_cases hj:j=i
   ·subst hj;rw [hi] at e1;cases e1;rw [List.getElem?_set_self Q4] at e2;cases e2;exact ⟨u,r,.inl ⟨hk,by simp⟩⟩
   ·rw [List.getElem?_set_ne (Ne.symm hj)] at e2;obtain ⟨u',r',q⟩:=hl j y v' e1 e2 e3;refine ⟨u',r',?_⟩;rcases q with ⟨k,e⟩ | ⟨k,c,e,z⟩
    ·refine .inl ⟨k,?_⟩;have:y≠x:=λe=>hj (oQ hN e1 (e ▸ hi));simp [this,e]
    ·exact .inr ⟨k,c,e,z.sameBut hs (OV y c e)⟩
  ·obtain ⟨w',z⟩:=I.cell y c e;exact ⟨w',z.sameBut hs (OV y c e)⟩
  ·obtain ⟨e,n,ne,nf,d⟩:=I.pin p hp;exact ⟨(hs.2 p.1 ne).trans e,n,ne,nf,d⟩
 ·have VA:X.fn x=true:=by
   rcases hf with z | z
   ·exact z
   ·rw [z] at hk;cases hk
  obtain ⟨c,hc⟩:=I.ok.has x (.inl hk);obtain ⟨w',z⟩:=I.cell x c hc;refine wpAny_storeName_cell I.ok.kind hk hc z (λh' Ra hs=>?_);obtain ⟨oc,Of,Vj⟩:=id z;refine h { s with heap:=h' } ⟨I.ok,I.os,I.bare,⟨λb o e n hb hx=>?_,λb o e n hb hx=>?_,I.base.free,λb o e hx=>?_,I.base.aR,I.base.kj,I.base.jI⟩,⟨m,hn.sameBut hs (Ne.symm (OV x c hc)),λj y v' e1 e2 e3=>?_⟩,λy c' e=>?_,I.free,I.fK,λp hp=>?_,tracked ⟨oc,Of,I.fK x c hc⟩ hs,by simpa using I.len⟩ ⟨c,hs,.inr hc⟩
  ·exact (hs.2 b (zU (zR (Heap.lt_size e) (I.ok.Rq x c VA hc)))).trans (I.base.keep b o e n hb hx)
  ·obtain ⟨sl,e1⟩:=I.base.slot b o e n hb hx;exact ⟨sl,(hs.2 b (zU (zR (Heap.lt_size e) (I.ok.Rq x c VA hc)))).trans e1⟩
  ·obtain ⟨o',e1⟩:=I.base.there b o e hx;exact ⟨o',(hs.2 b (zU (zR (Heap.lt_size e) (I.ok.Rq x c VA hc)))).trans e1⟩
  ·by_cases hj:j=i
   ·subst hj;rw [hi] at e1;cases e1;rw [List.getElem?_set_self Q4] at e2;cases e2;exact ⟨u,r,.inr ⟨.inl hk,c,hc,Ra⟩⟩
   ·rw [List.getElem?_set_ne (Ne.symm hj)] at e2;obtain ⟨u',r',q⟩:=hl j y v' e1 e2 e3;refine ⟨u',r',?_⟩;rcases q with q | ⟨k,c',e,z'⟩
    ·exact .inl q
    ·refine .inr ⟨k,c',e,z'.sameBut hs ?_⟩;rintro rfl;exact hj (oQ hN e1 (I.ok.inj _ _ _ e hc ▸ hi))
  ·by_cases Xq:c'=c
   ·subst Xq;exact ⟨_,Ra⟩
   ·obtain ⟨w2,z2⟩:=I.cell y c' e;exact ⟨w2,z2.sameBut hs Xq⟩
  ·obtain ⟨e,n,ne,nf,d⟩:=I.pin p hp;refine ⟨(hs.2 p.1 ?_).trans e,n,ne,nf,d⟩;intro q;rw [q,Of] at e;have q':oc=p.2:=Option.some.inj e;exact d w' (by rw [<-q'];exact Vj)
theorem jM {M:Model}{A:Around}{E:Value->Shared->Prop}{i:Nat}{x:Str}{v:V}{u:Value}{Q:Unit->Shared->Prop}(I:Inv X aa σ H s)(hN:X.N.Nodup)(hi:X.N[i]?=some x)(hx:Loc X.env.scope x)(r:RelV v u)
  (h:∀ s',Inv X aa (σ.set i (some v)) H s'->Q () s') (hf:ko X x=true:=by rfl):wpAny M A (storeName X.env x u) Q E s:=
 tO I hN hi hx r (λs' I' _=>h s' I') hf
theorem Inv.MP {s':Shared}{ch:List Addr}(I:Inv X aa σ H s)(ho:s'.os=s.os)(u:Un (u9 X.stack) ch H H' s.heap s'.heap)(br:fP X.prog X.w H' s'.heap)(hg:AllBare s'.gens)
  (K1:∀ b∈ch,(b∈X.ex\/X.cL.heap.objs.size<=b)/\b≠X.env.locals/\(∀ x c,X.env.cells.lookup x=some c->c≠b)/\∀ p∈X.pn++aa,p.1≠b):Inv X aa σ H' s':=by
 obtain ⟨h',g',d',t',o'⟩:=s';have e:o'=s.os:=ho;subst e;exact I.call (g':=g') (t':=t') (d':=d') u br hg K1
end
abbrev XK:=Value->Option Addr->Hp->Prop
abbrev St:=List (Option V)
abbrev VK:=V->Hp->Prop
abbrev TE:=St->Hp->VK->Prop
abbrev TT:=St->Hp->(Bool->Hp->Prop)->Prop
abbrev TA:=St->Hp->(List V->Hp->Prop)->Prop
structure Ends where
 nx:St->Hp->Prop
 rt:VK
 bk:St->Hp->Prop:=λ_ _=>False
 ct:St->Hp->Prop:=λ_ _=>False
abbrev Ends.go (D:Ends)(n:St->Hp->Prop):Ends:={ D with nx:=n }
abbrev Ends.lp (D:Ends)(n:St->Hp->Prop):Ends:={ D with nx:=n,ct:=n,bk:=D.nx }
abbrev TS:=Ends->St->Hp->Prop
def EP (X:Cx)(aa:List (Addr×Obj))(σ:St)(Q:VK)(u:Value)(s':Shared):Prop:=∃ v H',Inv X aa σ H' s'/\RelV v u/\Q v H'
def TP (X:Cx)(aa:List (Addr×Obj))(σ:St)(Q:Bool->Hp->Prop)(b:Bool)(s':Shared):Prop:=∃ H',Inv X aa σ H' s'/\Q b H'
def AP (X:Cx)(aa:List (Addr×Obj))(σ:St)(Q:List V->Hp->Prop)(us:List Value)(s':Shared):Prop:=∃ vs H',Inv X aa σ H' s'/\Vals vs us/\Q vs H'
def SP (X:Cx)(aa:List (Addr×Obj))(D:Ends)(f:Flow)(s':Shared):Prop:=
 match f with
 | .next=>∃ bE H',Inv X aa bE H' s'/\D.nx bE H'
 | .brk=>∃ bE H',Inv X aa bE H' s'/\D.bk bE H'
 | .cont=>∃ bE H',Inv X aa bE H' s'/\D.ct bE H'
 | .ret u=>∃ v bE H',Inv X aa bE H' s'/\RelV v u/\D.rt v H'
def PE (X:Cx)(e:Expr)(t:TE):Prop:=
 ∀ (aa:List (Addr×Obj)) (s:Shared) (σ:St) (H:Hp) (Q:VK),Inv X aa σ H s->t σ H Q->wpAny (model X.prog X.w) X.A (eval e X.env) (EP X aa σ Q) X.xe s
def PT (X:Cx)(e:Expr)(t:TT):Prop:=
 ∀ (aa:List (Addr×Obj)) (s:Shared) (σ:St) (H:Hp) (Q:Bool->Hp->Prop),Inv X aa σ H s->t σ H Q->wpAny (model X.prog X.w) X.A (isTrue e X.env (eval e X.env)) (TP X aa σ Q) X.xe s
def PW (X:Cx)(e:Expr)(t:TT):Prop:=
 ∀ (whole:Sem Value) (aa:List (Addr×Obj)) (s:Shared) (σ:St) (H:Hp) (Q:Bool->Hp->Prop),Inv X aa σ H s->t σ H Q->wpAny (model X.prog X.w) X.A (isTrue e X.env whole) (TP X aa σ Q) X.xe s
theorem PW.pt {X:Cx}{e:Expr}{t:TT}(h:PW X e t):PT X e t:=h _
def PA (X:Cx)(es:List Expr)(t:TA):Prop:=
 ∀ (pos:Pos) (aa:List (Addr×Obj)) (s:Shared) (σ:St) (H:Hp) (Q:List V->Hp->Prop),Inv X aa σ H s->t σ H Q->wpAny (model X.prog X.w) X.A (spliced (backTo pos (starEach es X.env))) (AP X aa σ Q) X.xe s
def PS (X:Cx)(st:Stmt)(t:TS):Prop:=
 ∀ (aa:List (Addr×Obj)) (s:Shared) (σ:St) (H:Hp) (D:Ends),Inv X aa σ H s->t D σ H->wpAny (model X.prog X.w) X.A (exec st X.env) (SP X aa D) X.xe s
def mJ (X:Cx)(st:List Stmt)(t:TS):Prop:=
 ∀ (aa:List (Addr×Obj)) (s:Shared) (σ:St) (H:Hp) (D:Ends),Inv X aa σ H s->t D σ H->wpAny (model X.prog X.w) X.A (execs st X.env) (SP X aa D) X.xe s
theorem aX {α:Type}{t:Sem α}{Q Q':α->Shared->Prop}{M:Model}{A:Around}{E:Value->Shared->Prop}{s:Shared}(h:wpAny M A t Q E s)(hQ:∀ a s,Q a s->Q' a s):wpAny M A t Q' E s:=wpAny_mono h hQ λ_ _ x=>x
section
variable {X:Cx}
def qj (i:Nat):TE:=fun σ H Q=>∃ v,σ[i]?=some (some v)/\Q v H
def tC (v:V):TE:=λ_ H Q=>Q v H
theorem NG {i:Nat}{x:Str}{pos:Pos}(hN:X.N[i]?=some x)(hv:Sx X.env.scope x)(hd:(x == ("__debug__" : Str))=false:=by decide)(pB:(x == ("__classdict__" : Str))=false:=by decide):PE X (.Name x pos) (qj i):=by
 intro aa s σ H Q I h;obtain ⟨v,e,h⟩:=h;obtain ⟨m,hn,hl⟩:=I.loc;obtain ⟨u,r,l⟩:=hl i x v hN e hv;have fin:EP X aa σ Q u s:=⟨v,H,I,r,h⟩;rcases l with ⟨hk,hm⟩ | ⟨hk,c,hc,MH⟩
 ·exact wpAny_Name (wpAny_loadName_local I.ok.kind hk hn hm fin) hd
 ·rcases hk with hk | hk
  ·exact wpAny_Name (wpAny_loadName_cell I.ok.kind hk hc MH fin) hd
  ·exact wpAny_Name (wpAny_loadName_free I.ok.kind hk hc MH fin pB) hd
theorem xO {i j pos}:PE X (.Constant (.int i) j pos) (tC (.int i)):=λ_ _ _ H _ I h=>wpAny_Constant_int ⟨.int i,H,I.tok _,⟨_,rfl⟩,h⟩
theorem eY {b j pos}:PE X (.Constant (.bool b) j pos) (tC (.bl b)):=λ_ _ _ H _ I h=>Constant_bool ⟨.bl b,H,I,rfl,h⟩
theorem cV {j pos}:PE X (.Constant .none j pos) (tC .bG):=λ_ _ _ H _ I h=>Constant_none ⟨.bG,H,I,rfl,h⟩
theorem mU {x j pos}:PE X (.Constant (.str x) j pos) (tC (.str x)):=λ_ _ _ H _ I h=>Calls.Constant_str ⟨.str x,H,I.tok _,⟨_,rfl⟩,h⟩
def Gl (X:Cx)(x:Str):Prop:=X.env.kindOf x=some .globalImplicit
theorem sy {E:Value->Shared->Prop}{aa:List (Addr×Obj)}{s:Shared}{σ:St}{H:Hp}{x:Str}{u:Value}{pos:Pos}{Q:Value->Shared->Prop}(I:Inv X aa σ H s)(hg:Gl X x)(hm:X.mg x=some u)(h:Q u s)
  (hd:(x == ("__debug__" : Str))=false:=by decide):wpAny (model X.prog X.w) X.A (eval (.Name x pos) X.env) Q E s:=
 Calls.Name_function_global I.ok.kind hg (Calls.loadGlobal_global (by rw [I.ok.glob];exact I.mod.glob.keeps I.bk) hm h) hd
theorem cG {E:Value->Shared->Prop}{aa:List (Addr×Obj)}{s:Shared}{σ:St}{H:Hp}{x:Str}{u:Value}{pos:Pos}{Q:Value->Shared->Prop}(I:Inv X aa σ H s)(hg:Gl X x)(hm:X.mg x=none)(hv:bootBuiltins x=some u)(h:Q u s)
  (hn:x ≠ "__name__" := by decide) (hd:(x == ("__debug__" : Str))=false:=by decide):wpAny (model X.prog X.w) X.A (eval (.Name x pos) X.env) Q E s:=by
 obtain ⟨mb,h1,h2⟩:=I.mod.blt;exact Calls.Name_function_global I.ok.kind hg (Calls.loadGlobal_builtin (by rw [I.ok.glob];exact I.mod.glob.keeps I.bk) hm (by rw [I.ok.blt];exact h1.keeps I.bk) ((h2 x hn).trans hv) h) hd
theorem mY {x:Str}{v:V}{u:Value}{pos:Pos}(hg:Gl X x)(hm:X.mg x=some u)(r:RelV v u)(hd:(x == ("__debug__" : Str))=false:=by decide):PE X (.Name x pos) (tC v):=
 λ_ _ _ H _ I h=>sy I hg hm ⟨v,H,I,r,h⟩ hd
theorem cN {x:Str}{v:V}{u:Value}{pos:Pos}(hg:Gl X x)(hm:X.mg x=none)(hv:bootBuiltins x=some u)(r:RelV v u)(hn:x ≠ "__name__" := by decide)(hd:(x == ("__debug__" : Str))=false:=by decide):PE X (.Name x pos) (tC v):=
 λ_ _ _ H _ I h=>cG I hg hm hv ⟨v,H,I,r,h⟩ hn hd
variable {a b:Expr}{ta tb:TE}{pos:Pos}
def PC (X:Cx)(op:CmpOp)(a b:Expr)(t:TE):Prop:=
 ∀ (aa:List (Addr×Obj)) (s:Shared) (σ:St) (H:Hp) (Q:VK),Inv X aa σ H s->t σ H Q ->
  wpAny (model X.prog X.w) X.A (eval a X.env) (λv aN=>wpAny (model X.prog X.w) X.A (eval b X.env) (λu jL=>wpAny (model X.prog X.w) X.A (compareOp op v u) (EP X aa σ Q) X.xe jL) X.xe aN) X.xe s
def Ug (ta:TE):TE:=fun σ H Q=>ta σ H λx H1=>Q (.bl (decide (x=.bG))) H1
def PU (ta:TE):TE:=fun σ H Q=>ta σ H λx H1=>Q (.bl (!decide (x=.bG))) H1
theorem RelV.oO {x:V}{v:Value}(r:RelV x v):(v == Value.none)=decide (x=.bG):=by
 cases x with
 | bG=>cases r;rfl
 | bl _=>cases r;rfl
 | int _=>obtain ⟨t,rfl⟩:=r;rfl
 | str _=>obtain ⟨t,rfl⟩:=r;rfl
 | sS _=>obtain ⟨t,rfl⟩:=r;rfl
 | OJ _=>obtain ⟨t,rfl⟩:=r;rfl
 | ref _=>cases r;rfl
 | ty _=>cases r;rfl
theorem cE {j pos'}(ha:PE X a ta):PC X .Is a (.Constant .none j pos') (Ug ta):=by intro aa s σ H Q I h;refine aX (ha aa s σ H _ I h) λv s1 T5=>?_;obtain ⟨x,H1,I1,r1,q1⟩:=T5;exact Constant_none (is_none_gen ⟨.bl _,H1,I1,by rw [r1.oO];rfl,q1⟩)
theorem fU {j pos'}(ha:PE X a ta):PC X .IsNot a (.Constant .none j pos') (PU ta):=by intro aa s σ H Q I h;refine aX (ha aa s σ H _ I h) λv s1 T4=>?_;obtain ⟨x,H1,I1,r1,q1⟩:=T4;exact Constant_none (isnot_none_gen ⟨.bl _,H1,I1,by rw [r1.oO];rfl,q1⟩)
def tB (t:TE):TT:=fun σ H Q=>t σ H λx H1=>∃ c,x=.bl c/\Q c H1
theorem jX {op:CmpOp}{t:TE}(h:PC X op a b t)(h1:behindInMarks op b=false:=by rfl):PE X (.Compare a [op] [b] pos) t:=λaa s σ H Q I hw=>wpAny_Compare1 (h aa s σ H Q I hw) h1
theorem bZ {op:CmpOp}{t:TE}(h:PC X op a b t)(h1:behindInMarks op b=false:=by rfl):PT X (.Compare a [op] [b] pos) (tB t):=by intro aa s σ H Q I hw;refine wpAny_isTrue_Compare1 (aX (h aa s σ H _ I hw) λv s1 h1=>aX h1 λu s2 h2=>aX h2 λc s3 T3=>?_) h1;obtain ⟨x,H1,I1,r1,q1⟩:=T3;obtain ⟨d,rfl,q⟩:=q1;cases r1;exact wpAny_truthy_bool ⟨H1,I1,q⟩
theorem wb {e:Expr}{t:TE}(h:PE X e t)(he:∀ whole,isTrue e X.env whole=(do let v <- whole;standAt e.pos;holding [v] (truthy v)):=by intro _;rfl):PT X e (tB t):=by intro aa s σ H Q I hw;refine isTrue_plain (aX (h aa s σ H _ I hw) λv s1 TZ=>?_) (he _);obtain ⟨x,H1,I1,r1,q1⟩:=TZ;obtain ⟨d,rfl,q⟩:=q1;cases r1;exact wpAny_truthy_bool ⟨H1,I1,q⟩
variable {tA RQ:TT}{rest:List Expr}
def vF (t u:TT):TT:=fun σ H Q=>t σ H λc H1=>if c=true then u σ H1 Q else Q false H1
def PR (t u:TT):TT:=fun σ H Q=>t σ H λc H1=>if c=true then Q true H1 else u σ H1 Q
def vC (t:TT):TT:=fun σ H Q=>t σ H λc H1=>Q (!c) H1
theorem fR (ha:PT X a tA):PW X (.BoolOp .And [a] pos) tA:=by
 intro wh aa s σ H Q I h;refine isTrue_and (aX (ha aa s σ H Q I h) λc s1 e=>?_);cases c with
 | true=>exact isTrue_and_nil e
 | false=>exact e
theorem cC (ha:PT X a tA):PW X (.BoolOp .Or [a] pos) tA:=by
 intro wh aa s σ H Q I h;refine isTrue_or (aX (ha aa s σ H Q I h) λc s1 e=>?_);cases c with
 | false=>exact isTrue_or_nil e
 | true=>exact e
theorem gE (ha:PT X a tA)(hb:PW X (.BoolOp .And (b::rest) pos) RQ):PW X (.BoolOp .And (a::b::rest) pos) (vF tA RQ):=by
 intro wh aa s σ H Q I h;refine isTrue_and (aX (ha aa s σ H _ I h) λc s1 TY=>?_);obtain ⟨H1,I1,q1⟩:=TY;cases c with
 | true=>exact hb wh aa s1 σ H1 Q I1 q1
 | false=>exact ⟨H1,I1,q1⟩
theorem cU (ha:PT X a tA)(hb:PW X (.BoolOp .Or (b::rest) pos) RQ):PW X (.BoolOp .Or (a::b::rest) pos) (PR tA RQ):=by
 intro wh aa s σ H Q I h;refine isTrue_or (aX (ha aa s σ H _ I h) λc s1 TX=>?_);obtain ⟨H1,I1,q1⟩:=TX;cases c with
 | true=>exact ⟨H1,I1,q1⟩
 | false=>exact hb wh aa s1 σ H1 Q I1 q1
theorem wo (ha:PT X a tA):PT X (.UnaryOp .Not a pos) (vC tA):=by intro aa s σ H Q I h;exact isTrue_not (ha aa s σ H (λc H1=>Q (!c) H1) I h)
def oz (ta tb:TE):TE:=fun σ H Q=>ta σ H λx H1=>∃ c,x=.bl c/\if c=true then tb σ H1 Q else Q (.bl false) H1
def vB (ta tb:TE):TE:=fun σ H Q=>ta σ H λx H1=>∃ c,x=.bl c/\if c=true then Q (.bl true) H1 else tb σ H1 Q
def oi (ta:TE):TE:=fun σ H Q=>ta σ H λx H1=>∃ c,x=.bl c/\Q (.bl (!c)) H1
theorem cg {op}{t:TE}(h:PE X a t):PE X (.BoolOp op [a] pos) t:=λaa s σ H Q I hw=>BoolOp_one (h aa s σ H Q I hw)
theorem cD (ha:PE X a ta)(hb:PE X (.BoolOp .And (b::rest) pos) tb):PE X (.BoolOp .And (a::b::rest) pos) (oz ta tb):=by
 intro aa s σ H Q I h;refine BoolOp_and (aX (ha aa s σ H _ I h) λv s1 TV=>?_);obtain ⟨x,H1,I1,r1,q1⟩:=TV;obtain ⟨c,rfl,q1⟩:=q1;cases r1;refine wpAny_truthy_bool ?_;cases c with
 | true=>exact hb aa s1 σ H1 Q I1 q1
 | false=>exact ⟨.bl false,H1,I1,rfl,q1⟩
theorem Jt (ha:PE X a ta)(hb:PE X (.BoolOp .Or (b::rest) pos) tb):PE X (.BoolOp .Or (a::b::rest) pos) (vB ta tb):=by
 intro aa s σ H Q I h;refine BoolOp_or (aX (ha aa s σ H _ I h) λv s1 TU=>?_);obtain ⟨x,H1,I1,r1,q1⟩:=TU;obtain ⟨c,rfl,q1⟩:=q1;cases r1;refine wpAny_truthy_bool ?_;cases c with
 | false=>exact hb aa s1 σ H1 Q I1 q1
 | true=>exact ⟨.bl true,H1,I1,rfl,q1⟩
theorem Ju (ha:PE X a ta):PE X (.UnaryOp .Not a pos) (oi ta):=by intro aa s σ H Q I h;refine UnaryOp_ (aX (ha aa s σ H _ I h) λv s1 TR=>?_);obtain ⟨x,H1,I1,r1,q1⟩:=TR;obtain ⟨c,rfl,q1⟩:=q1;cases r1;exact not_of (wpAny_truthy_bool ⟨.bl (!c),H1,I1,rfl,q1⟩)
def Yq (t:TT)(ta tb:TE):TE:=fun σ H Q=>t σ H λc H1=>if c=true then ta σ H1 Q else tb σ H1 Q
theorem ia {c:Expr}(hc:PT X c tA)(ha:PE X a ta)(hb:PE X b tb):PE X (.IfExp c a b pos) (Yq tA ta tb):=by
 intro aa s σ H Q I h;refine wpAny_IfExp (aX (hc aa s σ H _ I h) λd s1 TQ=>?_);obtain ⟨H1,I1,q1⟩:=TQ;cases d with
 | true=>exact ha aa s1 σ H1 Q I1 q1
 | false=>exact hb aa s1 σ H1 Q I1 q1
end
def aJ (K:PySem.W.Frag)(H:Hp)(a:Addr)(xs:List V):Prop:=
 Rd H a (.lst xs) \/
  ∃ (o:Obj) (au:Array Value) (n:Nat),K.lookup a=some o/\o.cls=.type "list" /\ o.dict=none/\o.data=.seq au n/\au.size<=sizeLine/\Vals xs au.toList
def bC (K:PySem.W.Frag)(H:Hp)(a:Addr)(xs:List V):Prop:=
 Rd H a (.tup xs) \/
  ∃ (o:Obj) (au:Array Value) (n:Nat),K.lookup a=some o/\o.cls=.type "tuple" /\ o.data=.seq au n/\au.size<=sizeLine/\Vals xs au.toList
def V6:Value->Option V
 | .none=>some .bG
 | .bool b=>some (.bl b)
 | .int i _=>some (.int i)
 | .str x _=>some (.str x)
 | .bytes b _=>some (.sS b)
 | .float b _=>some (.OJ b)
 | .ref a=>some (.ref a)
 | .type n=>some (.ty n)
 | _=>none
theorem RelV.abs {x:V}{u:Value}(r:RelV x u):V6 u=some x:=by
 cases x with
 | bG=>cases r;rfl
 | bl _=>cases r;rfl
 | int _=>obtain ⟨t,rfl⟩:=r;rfl
 | str _=>obtain ⟨t,rfl⟩:=r;rfl
 | sS _=>obtain ⟨t,rfl⟩:=r;rfl
 | OJ _=>obtain ⟨t,rfl⟩:=r;rfl
 | ref _=>cases r;rfl
 | ty _=>cases r;rfl
theorem RelV.inj {x y:V}{u:Value}(r:RelV x u)(q:RelV y u):x=y:=Option.some.inj (r.abs.symm.trans q.abs)
theorem Vals.inj:∀ {xs ys:List V}{us:List Value},Vals xs us->Vals ys us->xs=ys
 | _,_,_,.nil,.nil=>rfl
 | _,_,_,.cons r t,.cons r' t'=>by rw [r.inj r',Vals.inj t t']
section
variable {X:Cx}{aa:List (Addr×Obj)}{σ:St}{H:Hp}{s:Shared}{a:Addr}{xs ys:List V}
theorem aJ.of {K:PySem.W.Frag}(h:H a=some (.lst xs)):aJ K H a xs:=.inl (.inl h)
theorem bC.of {K:PySem.W.Frag}(h:H a=some (.tup xs)):bC K H a xs:=.inl (.inl h)
theorem Inv.list (I:Inv X aa σ H s)(h:aJ X.K H a xs):∃ au:List Value,Vals xs au/\PlainL s.heap a au.toArray/\xs.length<=sizeLine:=by
 rcases h with h | ⟨o,au,n,hk,hc,hd,hs,hz,r⟩
 ·obtain ⟨z,au,n,r,e⟩:=h.ok I.br;exact ⟨au,r,⟨_,n,e,rfl,rfl,rfl⟩,z⟩
 ·refine ⟨au.toList,r,⟨o,n,I.nU a o hk,hc,hd,by simpa using hs⟩,?_⟩;have e:=r.length;simp only [Array.length_toList] at e;omega
theorem Inv.tuple (I:Inv X aa σ H s)(h:bC X.K H a xs):∃ au:List Value,Vals xs au/\IsTup s.heap a au.toArray/\xs.length<=sizeLine:=by
 rcases h with h | ⟨o,au,n,hk,hc,hs,hz,r⟩
 ·obtain ⟨z,au,r,p⟩:=h.ok I.br;exact ⟨au,r,p,z.1⟩
 ·refine ⟨au.toList,r,⟨o,I.nU a o hk,hc,n,by simpa using hs⟩,?_⟩;have e:=r.length;simp only [Array.length_toList] at e;omega
theorem Inv.oY (I:Inv X aa σ H s)(h:aJ X.K H a xs)(h':aJ X.K H a ys):xs=ys:=by
 obtain ⟨au,r,⟨o,n,e,_,_,d⟩,_⟩:=I.list h;obtain ⟨its',r',⟨o',n',e',_,_,d'⟩,_⟩:=I.list h';rw [e] at e';cases e';rw [d] at d';injection d' with d1 _
 have:au=its':=by simpa using congrArg Array.toList d1
 subst this;exact r.inj r'
theorem Inv.lO (I:Inv X aa σ H s)(h:bC X.K H a xs)(h':bC X.K H a ys):xs=ys:=by
 obtain ⟨au,r,⟨o,e,_,n,d⟩,_⟩:=I.tuple h;obtain ⟨its',r',⟨o',e',_,n',d'⟩,_⟩:=I.tuple h';rw [e] at e';cases e';rw [d] at d';injection d' with d1 _
 have:au=its':=by simpa using congrArg Array.toList d1
 subst this;exact r.inj r'
end
abbrev Cx.jE (X:Cx)(E:Value->Shared->Prop):Cx:={ X with xe:=E }
abbrev Cx.JC (X:Cx):Cx:=X.jE λ_ _=>False
theorem Cx.Ok.jE {X:Cx}(ok:X.Ok)(E:Value->Shared->Prop):(X.jE E).Ok:=
 ⟨ok.mod,ok.kind,ok.glob,ok.blt,ok.above,ok.inj,ok.has,ok.Rq,ok.hd,ok.frames,ok.Lf,ok.XT,ok.bs,ok.Ky,ok.JF,ok.Mi,ok.iY,ok.OG⟩
theorem Cx.Ok.dX {X:Cx}{E:Value->Shared->Prop}(ok:(X.jE E).Ok):X.Ok:=
 ⟨ok.mod,ok.kind,ok.glob,ok.blt,ok.above,ok.inj,ok.has,ok.Rq,ok.hd,ok.frames,ok.Lf,ok.XT,ok.bs,ok.Ky,ok.JF,ok.Mi,ok.iY,ok.OG⟩
section
variable {X:Cx}{aa:List (Addr×Obj)}{σ:St}{H:Hp}{s:Shared}{E:Value->Shared->Prop}
theorem Inv.jE (I:Inv X aa σ H s)(E:Value->Shared->Prop):Inv (X.jE E) aa σ H s:=⟨I.ok.jE E,I.os,I.bare,I.base,I.loc,I.cell,I.free,I.fK,I.pin,I.br,I.len⟩
theorem Inv.dX (I:Inv (X.jE E) aa σ H s):Inv X aa σ H s:=⟨I.ok.dX,I.os,I.bare,I.base,I.loc,I.cell,I.free,I.fK,I.pin,I.br,I.len⟩
theorem SP.dX {D:Ends}{f:Flow}{s':Shared}(h:SP (X.jE E) aa D f s'):SP X aa D f s':=by
 cases f with
 | next=>obtain ⟨bE,H',I,q⟩:=h;exact ⟨bE,H',I.dX,q⟩
 | brk=>obtain ⟨bE,H',I,q⟩:=h;exact ⟨bE,H',I.dX,q⟩
 | cont=>obtain ⟨bE,H',I,q⟩:=h;exact ⟨bE,H',I.dX,q⟩
 | ret u=>obtain ⟨v,bE,H',I,r,q⟩:=h;exact ⟨v,bE,H',I.dX,r,q⟩
theorem PE.JC {e:Expr}{t:TE}(h:PE X.JC e t):PE X e t:=λaa s σ H Q I hw=>
 wpAny_mono (h aa s σ H Q (I.jE _) hw) (λ_ _ ⟨v,H',I',r,q⟩=>⟨v,H',I'.dX,r,q⟩) λ_ _ z=>False.elim z
theorem mJ.JC {st:List Stmt}{t:TS}(h:mJ X.JC st t):mJ X st t:=λaa s σ H D I hw=>
 wpAny_mono (h aa s σ H D (I.jE _) hw) (λ_ _ q=>q.dX) λ_ _ z=>False.elim z
end
section
variable {X:Cx}{st:Stmt}{rest:List Stmt}{t u:TS}{e:Expr}{te:TE}{pos:Pos}
def jc:TS:=λD σ H=>D.nx σ H
def qk (t u:TS):TS:=λD σ H=>t (D.go (u D)) σ H
theorem xh:mJ X [] jc:=λ_ _ σ H _ I h=>wpAny_execs_nil ⟨σ,H,I,h⟩
theorem vW (h1:PS X st t)(h2:mJ X rest u):mJ X (st::rest) (qk t u):=by
 intro aa s σ H D I h;refine wpAny_execs_cons (aX (h1 aa s σ H (D.go (u D)) I h) λf s1 q=>?_);cases f with
 | next=>
  obtain ⟨bE,H',I',q⟩:=q;exact h2 aa s1 bE H' D I' q
 | ret v=>exact q
 | brk=>exact q
 | cont=>exact q
theorem Lv (h1:PS X st t):mJ X [st] t:=by
 intro aa s σ H D I h;refine wpAny_execs_cons (aX (h1 aa s σ H D I h) λf s1 q=>?_);cases f with
 | next=>exact wpAny_execs_nil q
 | ret v=>exact q
 | brk=>exact q
 | cont=>exact q
def PY:TS:=λD σ H=>D.ct σ H
theorem je:PS X (.Continue pos) PY:=λ_ _ σ H _ I h=>wpAny_Continue ⟨σ,H,I,h⟩
theorem Inv.quiet {aa:List (Addr×Obj)}{σ:St}{H:Hp}{s:Shared}(I:Inv X aa σ H s):interactive X.env=false:=by simp [interactive,I.ok.kind]
def om (te:TE):TS:=λD σ H=>te σ H λ_ H1=>D.nx σ H1
theorem wl (he:PE X e te)(hs:swapsWith e none pos.line X.env=pure false:=by rfl):PS X (.Expr e pos) (om te):=by intro aa s σ H D I h;exact wpAny_Expr_any (aX (he aa s σ H _ I h) λv s1 ⟨x,H1,I1,r1,q1⟩=>⟨σ,H1,I1,q1⟩) I.quiet hs
def vA (te:TE):TS:=λD σ H=>te σ H D.rt
theorem xZ (he:PE X e te):PS X (.Return (some e) pos) (vA te):=by intro aa s σ H D I h;exact wpAny_Return_some (aX (he aa s σ H _ I h) λv s1 ⟨x,H1,I1,r1,q1⟩=>⟨x,σ,H1,I1,r1,q1⟩)
def vE (c:TT)(t u:TS):TS:=λD σ H=>c σ H λb H1=>if b=true then t D σ H1 else u D σ H1
theorem xr {c:Expr}{a b:List Stmt}{tc:TT}(hc:PT X c tc)(ha:mJ X a t)(hb:mJ X b u):PS X (.If c a b pos) (vE tc t u):=by
 intro aa s σ H D I h;refine wpAny_If (aX (hc aa s σ H _ I h) λd s1 TN=>?_);obtain ⟨H1,I1,q1⟩:=TN;cases d with
 | true=>exact ha aa s1 σ H1 D I1 q1
 | false=>exact hb aa s1 σ H1 D I1 q1
def Ng:TS:=λ_ _ _=>False
theorem vX:PS X st Ng:=λ_ _ _ _ _ _ h=>h.elim
end
abbrev TG:=V->St->Hp->(St->Hp->Prop)->Prop
abbrev MS:=List V->St->Hp->(St->Hp->Prop)->Prop
def PG (X:Cx)(target:Expr)(t:TG):Prop:=
 ∀ (aa:List (Addr×Obj)) (s:Shared) (σ:St) (H:Hp) (v:V) (u:Value) (Q:St->Hp->Prop),Inv X aa σ H s->RelV v u->t v σ H Q ->
  wpAny (model X.prog X.w) X.A (assign target X.env u) (λ_ s'=>∃ bE H',Inv X aa bE H' s'/\Q bE H') X.xe s
def Rz (X:Cx)(ts:List Expr)(t:MS):Prop:=
 ∀ (aa:List (Addr×Obj)) (s:Shared) (σ:St) (H:Hp) (vs:List V) (us:List Value) (Q:St->Hp->Prop),Inv X aa σ H s->Vals vs us->t vs σ H Q ->
  wpAny (model X.prog X.w) X.A (assignInOrder ((assignEach ts X.env).map (·.2)) us) (λ_ s'=>∃ bE H',Inv X aa bE H' s'/\Q bE H') X.xe s
abbrev KJ:=V->V->V->Hp->(Hp->Prop)->Prop
def O4 (X:Cx)(t:KJ):Prop:=
 ∀ (aa:List (Addr×Obj)) (s:Shared) (σ:St) (H:Hp) (o i v:V) (ov iv u:Value) (Q:Hp->Prop),Inv X aa σ H s->RelV o ov->RelV i iv->RelV v u->t o i v H Q ->
  wpAny (model X.prog X.w) X.A (setItem ov iv u) (λ_ s'=>∃ H',Inv X aa σ H' s'/\Q H') X.xe s
abbrev Sy:=V->V->Hp->VK->Prop
def X7 (X:Cx)(op:Operator)(t:Sy):Prop:=
 ∀ (aa:List (Addr×Obj)) (s:Shared) (σ:St) (H:Hp) (x y:V) (v u:Value) (Q:VK),Inv X aa σ H s->RelV x v->RelV y u->t x y H Q ->
  wpAny (model X.prog X.w) X.A (inplaceOp op v u) (EP X aa σ Q) X.xe s
section
variable {X:Cx}{pos:Pos}
def jh (i:Nat):TG:=λv σ H Q=>Q (σ.set i (some v)) H
theorem xV {i:Nat}{x:Str}(hN:X.N.Nodup)(hi:X.N[i]?=some x)(hx:JM X.env.scope x=true)(hf:ko X x=true:=by rfl):PG X (.Name x pos) (jh i):=by have hx:=m8 hx;intro aa s σ H v u Q I r h;exact wpAny_assign_Name (jM I hN hi hx r (λs' I'=>⟨_,H,I',h⟩) hf)
def Kc:MS:=λvs σ H Q=>vs=[]/\Q σ H
def pG (t:TG)(u:MS):MS:=λvs σ H Q=>∃ v r,vs=v::r/\t v σ H fun bE H'=>u r bE H' Q
theorem xu:Rz X [] Kc:=by intro aa s σ H vs us Q I r h;obtain ⟨e,h⟩:=h;subst e;cases r;exact assignInOrder_nil ⟨σ,H,I,h⟩
theorem xS {e:Expr}{es:List Expr}{t:TG}{u:MS}(h1:PG X e t)(h2:Rz X es u)
  (hs:(assignEach (e::es) X.env).map (·.2)=assign e X.env::(assignEach es X.env).map (·.2):=by rfl):Rz X (e::es) (pG t u):=by
 intro aa s σ H vs us Q I r h;obtain ⟨v,vr,e1,h⟩:=h;subst e1;cases r with
 | cons r rr=>
  rw [hs];refine assignInOrder_cons (aX (h1 aa s σ H _ _ _ I r h) λ_ s1 TM=>?_);obtain ⟨Pa,H1,I1,q1⟩:=TM;exact h2 aa s1 Pa H1 _ _ Q I1 rr q1
def uI (K:PySem.W.Frag)(n:Nat)(t:MS):TG:=λv σ H Q=>∃ a xs,v=.ref a/\bC K H a xs/\xs.length=n/\t xs σ H Q
theorem NF {es:List Expr}{k:Nat}{t:MS}{n:Nat}(hc:X.calm=true)(h:Rz X es t)
  (hn:(assignEach es X.env).length=n:=by rfl) (LX:(assignEach es X.env).findIdx? (·.1)=none:=by rfl):PG X (.Tuple es k pos) (uI X.K n t):=by
 intro aa s σ H v u Q I r hw;obtain ⟨a,xs,e1,hq,hl,hw⟩:=hw;subst e1;cases r;obtain ⟨au,rv,ht,hz⟩:=I.tuple hq;refine assign_Tuple_tuple (I.ok.hd hc) ht (by simp [hn,<- hl,rv.length]) LX λh' hx=>?_;have I1:Inv X aa σ H { s with heap:=h' }:=I.kept (t':=s.toks) λb o e=>hx b o (zU (Heap.lt_size e)) e;exact h aa _ σ H xs _ Q I1 (by simpa using rv) hw
def Ka (to ti:TE)(t:KJ):TG:=λv σ H Q=>to σ H λo H1=>ti σ H1 λi H2=>t o i v H2 λH3=>Q σ H3
theorem iT {o i:Expr}{to ti:TE}{t:KJ}(ho:PE X o to)(hi:PE X i ti)(hs:O4 X t)
  (ha:∀ v,assign (.Subscript o i pos) X.env v=(do
   let ov <- holding [v] (eval o X.env)
   let iv <- holding [v,ov] (eval i X.env)
   standAt pos
   holding [v,ov,iv] (setItem ov iv v)
   release [v,ov,iv] []):=by intro _;rfl):PG X (.Subscript o i pos) (Ka to ti t):=by
 intro aa s σ H v u Q I r h;rw [ha];refine wpAny_bind (wpAny_holding (aX (ho aa s σ H _ I h) λov s1 TL=>?_));obtain ⟨x,H1,I1,r1,q1⟩:=TL;refine wpAny_bind (wpAny_holding (aX (hi aa s1 σ H1 _ I1 q1) λiv s2 TJ=>?_));obtain ⟨y,H2,I2,r2,q2⟩:=TJ;refine wpAny_bind (wpAny_standAt (wpAny_bind (wpAny_holding (aX (hs aa s2 σ H2 x y v ov iv u _ I2 r1 r2 r q2) λ_ s3 TH=>?_))));obtain ⟨H3,I3,q3⟩:=TH;exact wpAny_release ⟨σ,H3,I3,q3⟩
def qm (te:TE)(g:TG):TS:=λD σ H=>te σ H λx H1=>g x σ H1 D.nx
theorem wc {tg e:Expr}{te:TE}{g:TG}(he:PE X e te)(hg:PG X tg g)(hs:swapsWithSole [tg] e pos.line X.env=pure false:=by rfl)(hw:swappedStores [tg] e X.env=pure none:=by rfl)
  (h1:(assignEach [tg] X.env).map (·.2)=[assign tg X.env]:=by rfl):PS X (.Assign [tg] e pos) (qm te g):=by
 intro aa s σ H D I h;refine wpAny_Assign_stores (aX (he aa s σ H _ I h) λv s1 TF=>?_) hs hw;obtain ⟨x,H1,I1,r1,q1⟩:=TF;rw [h1];exact aX (hg aa s1 σ H1 x v _ I1 r1 q1) λ_ s2 q=>q
theorem xb {i:Nat}{x:Str}{e:Expr}{te:TE}{pos':Pos}(hN:X.N.Nodup)(hi:X.N[i]?=some x)(hx:JM X.env.scope x=true)(he:PE X e te)(hs:swapsWith e (some (.Name x pos')) pos.line X.env=pure false:=by rfl)(hf:ko X x=true:=by rfl) :
  PS X (.Assign [.Name x pos'] e pos) (qm te (jh i)):=by
 have hx:=m8 hx;intro aa s σ H D I h;refine wpAny_Assign_Name (aX (he aa s σ H _ I h) λv s1 Tz=>?_) hs;obtain ⟨y,H1,I1,r1,q1⟩:=Tz;exact jM I1 hN hi hx r1 (λs2 I2=>⟨_,H1,I2,q1⟩) hf
def ou (to ti te:TE)(Lc:V->V->Hp->VK->Prop)(RP:Sy)(La:KJ):TS:=λD σ H=>to σ H λo H1=>ti σ H1 λi H2=>Lc o i H2 λx H3=>te σ H3 λy H4=>RP x y H4 λz H5=>La o i z H5 λH6=>D.nx σ H6
def RA (X:Cx)(t:V->V->Hp->VK->Prop):Prop:=
 ∀ (aa:List (Addr×Obj)) (s:Shared) (σ:St) (H:Hp) (o i:V) (ov iv:Value) (Q:VK),Inv X aa σ H s->RelV o ov->RelV i iv->t o i H Q ->
  wpAny (model X.prog X.w) X.A (getItem ov iv) (EP X aa σ Q) X.xe s
theorem Lx {o i e:Expr}{to ti te:TE}{Lc:V->V->Hp->VK->Prop}{RP:Sy}{La:KJ}{op:Operator}{Nb:Pos}(ho:PE X o to)(hi:PE X i ti)(hg:RA X Lc)(he:PE X e te)(hp:X7 X op RP)(hs:O4 X La)
  (ha:∀ ov iv new,augStore i ov iv new=(do holding [new,ov,iv] (setItem ov iv new);release [new,ov,iv] [];pure .next):=by intros;rfl):PS X (.AugAssign (.Subscript o i Nb) op e pos) (ou to ti te Lc RP La):=by
 intro aa s σ H D I h;refine wpAny_AugAssign_SubscriptAny (aX (ho aa s σ H _ I h) λov s1 Tw=>?_) ha;obtain ⟨x1,H1,I1,r1,q1⟩:=Tw;refine aX (hi aa s1 σ H1 _ I1 q1) λiv s2 Tv=>?_;obtain ⟨x2,H2,I2,r2,q2⟩:=Tv;refine aX (hg aa s2 σ H2 x1 x2 ov iv _ I2 r1 r2 q2) λold s3 Tu=>?_;obtain ⟨x3,H3,I3,r3,q3⟩:=Tu;refine aX (he aa s3 σ H3 _ I3 q3) λv s4 Tt=>?_;obtain ⟨x4,H4,I4,r4,q4⟩:=Tt;refine aX (hp aa s4 σ H4 x3 x4 old v _ I4 r3 r4 q4) λnew s5 Tr=>?_;obtain ⟨x5,H5,I5,r5,q5⟩:=Tr;exact aX (hs aa s5 σ H5 x1 x2 x5 ov iv new _ I5 r1 r2 r5 q5) λ_ s6 ⟨H6,I6,q6⟩=>⟨σ,H6,I6,q6⟩
def QE (f:Int->Int->Int):Sy:=λx y H Q=>∃ i j,x=.int i/\y=.int j/\Q (.int (f i j)) H
theorem N7:X7 X .Add (QE λi j=>i + j):=by intro aa s σ H x y v u Q I r1 r2 h;obtain ⟨i,j,e1,e2,q⟩:=h;subst e1;subst e2;obtain ⟨t,rfl⟩:=r1;obtain ⟨t',rfl⟩:=r2;exact iadd_int ⟨.int _,H,I.tok _,⟨_,rfl⟩,q⟩
end
section
variable {X:Cx}{pos:Pos}
def jJ (c:TT)(tb:TS):TS:=λD σ H=>∃ W:Nat->St->Hp->Prop,(∃ m,W m σ H)/\∀ m σ H,W m σ H ->
 c σ H λb H1=>if b=true then ∃ N:St->Hp->Prop,(∀ bE H',N bE H'->∃ m',m' < m/\W m' bE H')/\tb (D.lp N) σ H1 else D.nx σ H1
theorem oK {c:Expr}{body:List Stmt}{tc:TT}{tb:TS}(hp:PassesOwn (model X.prog X.w) X.A X.env X.xe)(hc:PT X c tc)(hb:mJ X body tb):PS X (.While c body [] pos) (jJ tc tb):=by
 intro aa s σ H D I h;obtain ⟨W,⟨m0,w0⟩,turn⟩:=h;refine wpAny_While (codeAny_whileLoop (λn s'=>∃ bE H',Inv X aa bE H' s'/\W n bE H') ?_ m0 ⟨σ,H,I,w0⟩);rintro n s1 ⟨Pa,H1,I1,w1⟩;refine wpAny_passesOwn hp (aX (hc aa s1 Pa H1 _ I1 (turn n Pa H1 w1)) λb s2 Tq=>?_);obtain ⟨H2,I2,q2⟩:=Tq;cases b with
 | true=>
  obtain ⟨N,hN,q2⟩:=q2;rw [if_pos rfl];refine wpAny_passesOwn hp (aX (hb aa s2 Pa H2 _ I2 q2) λf s3 q3=>?_);cases f with
  | next=>
   obtain ⟨vh,H3,I3,n3⟩:=q3;obtain ⟨m',hm,w3⟩:=hN vh H3 n3;exact ⟨m',hm,vh,H3,I3,w3⟩
  | cont=>
   obtain ⟨vh,H3,I3,n3⟩:=q3;obtain ⟨m',hm,w3⟩:=hN vh H3 n3;exact ⟨m',hm,vh,H3,I3,w3⟩
  | brk=>exact q3
  | ret v=>exact q3
 | false=>
  rw [if_neg zK];exact wpAny_execs_nil ⟨Pa,H2,I2,q2⟩
end
structure It where
 go:Nat->Hp->Prop
 rQ:Nat->Hp->V->Hp->Prop
 stop:Nat->Hp->Prop
def gQ (X:Cx)(aa:List (Addr×Obj))(H:Hp)(b:Addr):Prop:=
 H b=none/\b≠X.env.locals/\b ∉ X.fs/\(b∈X.ex\/X.cL.heap.objs.size<=b)/\(∀ x c,X.env.cells.lookup x=some c->c≠b)/\∀ p∈X.pn++aa,p.1≠b
theorem Inv.nj {X:Cx}{aa:List (Addr×Obj)}{σ:St}{H H':Hp}{s:Shared}{b:Addr}(I:Inv X aa σ H s)(hb:s.heap.objs.size<=b)(hn:H' b=none):gQ X aa H' b:=by
 refine ⟨hn,yT (zR I.lt hb),I.Qn hb,.inr (zu I.sz hb),λx c e z=>?_,λp hp z=>?_⟩
 ·obtain ⟨v,q⟩:=I.cell x c e;exact absurd (zR q.lt (by rw [z];exact hb)) (zy _)
 ·exact absurd (zR (Heap.lt_size (I.pin p hp).1) (by rw [z];exact hb)) (zy _)
structure Turn (P:Program) (w:World) (K:PySem.W.Frag) (tg:Expr) (J:It) (fp:List Addr) (it:Addr) (tn:Nat->Heap->Prop):Prop where
 mem:it∈fp
 obj:∀ i h,tn i h->∀ b∈fp,∃ o,h.get? b=some o/\∀ v,o.data≠.cell v
 keep:∀ i h h',tn i h->(∀ b∈fp,∀ o,h.get? b=some o->h'.get? b=some o)->tn i h'
 item:∀ (X:Cx),X.prog=P->X.w=w->X.K=K->X.calm=true->∀ (i:Nat) (aa:List (Addr×Obj)) (s:Shared) (σ:St) (H:Hp) (E:Value->Shared->Prop),Inv X aa σ H s->(∀ b∈fp,gQ X aa H b)->tn i s.heap->J.go i H ->
  wpAny (model P w) X.A (pyNext (.ref it)) (λr s1=>∃ u,r=some u /\
   wpAny (model P w) X.A (letOwnedTupleGo tg (.ref it) u) (λ_ s2=>∃ x H',Inv X aa σ H' s2/\RelV x u/\J.rQ i H x H'/\tn (i + 1) s2.heap/\∀ b∈fp,H' b=none) E s1) E s
 done:∀ (X:Cx),X.prog=P->X.w=w->X.K=K->X.calm=true->∀ (i:Nat) (aa:List (Addr×Obj)) (s:Shared) (σ:St) (H:Hp) (E:Value->Shared->Prop),Inv X aa σ H s->(∀ b∈fp,gQ X aa H b)->tn i s.heap->J.stop i H ->
  wpAny (model P w) X.A (pyNext (.ref it)) (λr s1=>r=none/\Inv X aa σ H s1) E s
 self:∀ (A:Around) (i:Nat) (s:Shared) (Q:Value->Shared->Prop) (E:Value->Shared->Prop),tn i s.heap->Q (.ref it) s->wpAny (model P w) A (pyIter (.ref it)) Q E s
abbrev TI:=St->Hp->(It->Hp->Prop)->Prop
def X8 (X:Cx)(aa:List (Addr×Obj))(σ:St)(tg:Expr)(R:It->Hp->Prop)(Sa:Value)(s2:Shared):Prop:=
 ∃ (it:Addr) (fp:List Addr) (tn:Nat->Heap->Prop) (J:It) (H':Hp),Sa=.ref it/\Inv X aa σ H' s2/\Turn X.prog X.w X.K tg J fp it tn/\tn 0 s2.heap/\(∀ b∈fp,gQ X aa H' b)/\R J H'
def PI (X:Cx)(tg iter:Expr)(wi:TI):Prop:=
 ∀ (aa:List (Addr×Obj)) (s:Shared) (σ:St) (H:Hp) (R:It->Hp->Prop),Inv X aa σ H s->wi σ H R ->
  wpAny (model X.prog X.w) X.A (eval iter X.env) (λv s1=>wpAny (model X.prog X.w) X.A (pyIter v) (X8 X aa σ tg R) X.xe s1) X.xe s
theorem sD {M:Model}{A:Around}{E:Value->Shared->Prop}{s:Shared}{tg:Expr}{it:Addr}{u:Value}{o:Obj}{n:String}{vs:Array Value}{Q:Unit->Shared->Prop}(ho:s.heap.get? it=some o)(hc:o.cls=.type n)(hd:o.data=.fields vs)
    (hn:["enumerate", "zip", "dict_itemiterator", "dict_reverseitemiterator", "odict_iterator", "itertools.zip_longest", "itertools.pairwise"].contains n=false) (hQ:Q () s):wpAny M A (letOwnedTupleGo tg (.ref it) u) Q E s:=by
  unfold letOwnedTupleGo;cases tg <;> first
    | exact wpAny_pure hQ
    | (cases u <;> first
        | exact wpAny_pure hQ
        | (refine wpAny_bind (wpAny_load ho ?_)
           rw [hc,hd];show wpAny M A (if (["enumerate", "zip", "dict_itemiterator", "dict_reverseitemiterator", "odict_iterator", "itertools.zip_longest", "itertools.pairwise"].contains n && vs[0]? == some (rawInt _))=true then _ else _) Q E s;rw [if_neg (by intro h;rw [hn,yL] at h;cases h)];exact wpAny_pure hQ))
def Mp (K:PySem.W.Frag)(a:Addr):It:=
 ⟨λi H=>∃ xs x,aJ K H a xs/\xs[i]?=some x,λi H x H'=>H'=H/\∀ xs,aJ K H a xs->xs[i]?=some x,λi H=>∃ xs,aJ K H a xs/\xs.length<=i⟩
def Mn (K:PySem.W.Frag)(a:Addr):It:=
 ⟨λi H=>∃ xs x,bC K H a xs/\xs[i]?=some x,λi H x H'=>H'=H/\∀ xs,bC K H a xs->xs[i]?=some x,λi H=>∃ xs,bC K H a xs/\xs.length<=i⟩
def KO (lo:Int)(n:Nat):It:=⟨λi _=>i < n,λi H x H'=>H'=H/\x=.int (lo + i),λi _=>n<=i⟩
theorem tL {P:Program}{w:World}{K:PySem.W.Frag}{tg:Expr}(a it:Addr):Turn P w K tg (Mp K a) [it] it (λi h=>h.IsListIter it a i) where
 mem:=by simp
 obj:=λi h st b hb=>by
  have e:b=it:=by simpa using hb
  subst e;obtain ⟨o,e,c,d⟩:=st;exact ⟨o,e,λv z=>by rw [d] at z;cases z⟩
 keep:=λi h h' st k=>st.at λo e=>k it (by simp) o e
 item:=by
  intro X hP hw hK hc i aa s σ H E I hf st hg;subst hP hw hK;obtain ⟨xs,x,hq,hx⟩:=hg;obtain ⟨au,rv,p,hz⟩:=I.list hq;obtain ⟨u,hu,ru⟩:=rv.get hx;obtain ⟨f0,f1,f2,f3,f4,f5⟩:=hf it (by simp);refine wpAny_pyNext_list_item st p.isList (x:=u) (by simpa using hu) λh' mQ sb=>?_;have I1:Inv X aa σ H { s with heap:=h' }:=I.turned (t':=s.toks) (λb o hb e=>(sb.2 b hb).trans e) f0 f1 f3 f4 f5;obtain ⟨o,e,c,d⟩:=id mQ;exact ⟨u,rfl,sD (s:={ s with heap:=h' }) e c d (by decide) ⟨x,H,I1,ru,⟨rfl,λys hy=>by rw [I.oY hy hq];exact hx⟩,mQ,λb hb=>(hf b hb).1⟩⟩
 done:=by
  intro X hP hw hK hc i aa s σ H E I hf st hg;subst hP hw hK;obtain ⟨xs,hq,hx⟩:=hg;obtain ⟨au,rv,p,hz⟩:=I.list hq;obtain ⟨f0,f1,f2,f3,f4,f5⟩:=hf it (by simp);have hl:=rv.length;exact wpAny_pyNext_list_end (I.ok.hd hc) st p.isList (by simp;omega) λh' eb=>⟨rfl,I.turned (t':=s.toks) (λb o hb e=>eb b o hb e) f0 f1 f3 f4 f5⟩
 self:=λ_ _ _ _ _ st h=>wpAny_pyIter_listiter st h
theorem qe {P:Program}{w:World}{K:PySem.W.Frag}{tg:Expr}(a it:Addr):Turn P w K tg (Mn K a) [it] it (λi h=>h.IsTupleIter it a i) where
 mem:=by simp
 obj:=λi h st b hb=>by
  have e:b=it:=by simpa using hb
  subst e;obtain ⟨o,e,c,d⟩:=st;exact ⟨o,e,λv z=>by rw [d] at z;cases z⟩
 keep:=λi h h' st k=>st.at λo e=>k it (by simp) o e
 item:=by
  intro X hP hw hK hc i aa s σ H E I hf st hg;subst hP hw hK;obtain ⟨xs,x,hq,hx⟩:=hg;obtain ⟨au,rv,p,hz⟩:=I.tuple hq;obtain ⟨u,hu,ru⟩:=rv.get hx;obtain ⟨f0,f1,f2,f3,f4,f5⟩:=hf it (by simp);refine wpAny_pyNext_tuple_item st (show s.heap.IsTuple a au.toArray from p) (x:=u) (by simpa using hu) λh' mQ sb=>?_;have I1:Inv X aa σ H { s with heap:=h' }:=I.turned (t':=s.toks) (λb o hb e=>(sb.2 b hb).trans e) f0 f1 f3 f4 f5;obtain ⟨o,e,c,d⟩:=id mQ;exact ⟨u,rfl,sD (s:={ s with heap:=h' }) e c d (by decide) ⟨x,H,I1,ru,⟨rfl,λys hy=>by rw [I.lO hy hq];exact hx⟩,mQ,λb hb=>(hf b hb).1⟩⟩
 done:=by
  intro X hP hw hK hc i aa s σ H E I hf st hg;subst hP hw hK;obtain ⟨xs,hq,hx⟩:=hg;obtain ⟨au,rv,p,hz⟩:=I.tuple hq;obtain ⟨f0,f1,f2,f3,f4,f5⟩:=hf it (by simp);have hl:=rv.length;exact wpAny_pyNext_tuple_end (I.ok.hd hc) st (show s.heap.IsTuple a au.toArray from p) (by simp;omega) λh' eb=>⟨rfl,I.turned (t':=s.toks) (λb o hb e=>eb b o hb e) f0 f1 f3 f4 f5⟩
 self:=λ_ _ _ _ _ st h=>wpAny_pyIter_tupleiter st h
theorem qg {P:Program}{w:World}{K:PySem.W.Frag}{tg:Expr}(it:Addr)(lo:Int)(n:Nat):Turn P w K tg (KO lo n) [it] it (λi h=>IsRangeIter h it (lo + (i:Nat) * 1) ((n:Int) - (i:Nat)) 1) where
 mem:=by simp
 obj:=λi h st b hb=>by
  have e:b=it:=by simpa using hb
  subst e;exact ⟨_,st,λv z=>by
   have z':Data.fields _=Data.cell v:=z;cases z'⟩
 keep:=λi h h' st k=>k it (by simp) _ st
 item:=by
  intro X hP hw hK hc i aa s σ H E I hf st hg;subst hP hw hK;obtain ⟨f0,f1,f2,f3,f4,f5⟩:=hf it (by simp);have W:=Walks.range (prog:=X.prog) (w:=X.w) (I.ok.hd hc) it lo 1 n;refine W.item i s _ _ hg st λv h' tk hv mQ kk=>?_;obtain ⟨t,rfl⟩:=hv;have I1:Inv X aa σ H { s with heap:=h',toks:=tk }:=I.turned (λb o hb e=>kk b o (by simpa using hb) e) f0 f1 f3 f4 f5;refine ⟨_,rfl,sD (s:={ s with heap:=h',toks:=tk }) (n := "range_iterator") mQ rfl rfl (by decide) ⟨.int (lo + i),H,I1,⟨t,?_⟩,⟨rfl,rfl⟩,mQ,λb hb=>(hf b hb).1⟩⟩;rw [Int.mul_one]
 done:=by
  intro X hP hw hK hc i aa s σ H E I hf st hg;subst hP hw hK;obtain ⟨f0,f1,f2,f3,f4,f5⟩:=hf it (by simp);exact wpAny_pyNext_range_end (I.ok.hd hc) st (by have:n<=i:=hg;omega) λh' eb=>⟨rfl,I.turned (t':=s.toks) (λb o hb e=>eb b o hb e) f0 f1 f3 f4 f5⟩
 self:=λ_ _ _ _ _ st h=>wpAny_pyIter_rangeiter st h
section
variable {X:Cx}{tg:Expr}
def ME (K:PySem.W.Frag)(tl:TE):TI:=fun σ H R=>tl σ H λx H1=>∃ a,x=.ref a/\(∃ xs,aJ K H1 a xs)/\R (Mp K a) H1
def QF (K:PySem.W.Frag)(tl:TE):TI:=fun σ H R=>tl σ H λx H1=>∃ a,x=.ref a/\(∃ xs,bC K H1 a xs)/\R (Mn K a) H1
theorem Lz {l:Expr}{tl:TE}(hl:PE X l tl):PI X tg l (ME X.K tl):=by
 intro aa s σ H R I h;refine aX (hl aa s σ H _ I h) λv s1 Tp=>?_;obtain ⟨x,H1,I1,r1,q1⟩:=Tp;obtain ⟨a,e,⟨xs,hq⟩,q⟩:=q1;subst e;cases r1;obtain ⟨au,rv,p,hz⟩:=I1.list hq;refine wpAny_pyIter_list p.isList ?_;refine ⟨s1.heap.objs.size,[s1.heap.objs.size],_,_,H1,rfl,I1.kept (t':=s1.toks) λb o e=>Heap.get?_push_of_some _ e,tL a _,⟨_,Heap.get?_push_size _ rfl,rfl,rfl⟩,λb hb=>?_,q⟩;have e:b=s1.heap.objs.size:=by simpa using hb
 subst e;exact I1.nj (zB _) (I1.br.fresh (zB _))
theorem ND {l:Expr}{tl:TE}(hl:PE X l tl):PI X tg l (QF X.K tl):=by
 intro aa s σ H R I h;refine aX (hl aa s σ H _ I h) λv s1 To=>?_;obtain ⟨x,H1,I1,r1,q1⟩:=To;obtain ⟨a,e,⟨xs,hq⟩,q⟩:=q1;subst e;cases r1;obtain ⟨au,rv,p,hz⟩:=I1.tuple hq;refine wpAny_pyIter_tuple (show s1.heap.IsTuple a au.toArray from p) ?_;refine ⟨s1.heap.objs.size,[s1.heap.objs.size],_,_,H1,rfl,I1.kept (t':=s1.toks) λb o e=>Heap.get?_push_of_some _ e,qe a _,⟨_,Heap.get?_push_size _ rfl,rfl,rfl⟩,λb hb=>?_,q⟩;have e:b=s1.heap.objs.size:=by simpa using hb
 subst e;exact I1.nj (zB _) (I1.br.fresh (zB _))
theorem oF {aa:List (Addr×Obj)}{σ:St}{H:Hp}{s:Shared}{R:It->Hp->Prop}{E:Value->Shared->Prop}{lo hi:Int}{t u v:Tok}{tk:Nat}(I:Inv X aa σ H s)(h1:-(2 ^ 62)<=lo)(h2:lo < 2 ^ 62)(h3:-(2 ^ 62)<=hi)(h4:hi < 2 ^ 62)
  (q:R (KO lo (hi - lo).toNat) H):wpAny (model X.prog X.w) X.A (pyIter (.ref s.heap.objs.size)) (X8 X aa σ tg R) E { s with heap:=s.heap.push { cls:=.type "range", data:=.fields #[.int lo t,.int hi u,.int 1 v] },toks:=tk }:=by
 refine wpAny_pyIter_range (IsRange.new ..) (small_one h1 h2 h3 h4) ?_;have I1:Inv X aa σ H { s with heap:=s.heap.push { cls:=.type "range", data:=.fields #[.int lo t,.int hi u,.int 1 v] },toks:=tk }:=I.kept λb o e=>Heap.get?_push_of_some _ e;refine ⟨(s.heap.push { cls:=.type "range", data:=.fields #[.int lo t,.int hi u,.int 1 v] }).objs.size,[(s.heap.push { cls:=.type "range", data:=.fields #[.int lo t,.int hi u,.int 1 v] }).objs.size],_,_,H,rfl,
  I1.kept (t':=tk) λb o e=>Heap.get?_push_of_some _ e,qg _ lo (hi - lo).toNat,?_,λb hb=>?_,q⟩
 ·have e1:lo + ((0:Nat):Int) * 1=lo:=by simp
  have e2:(((hi - lo).toNat:Nat):Int) - ((0:Nat):Int)=Builtin.Range.rangeSize lo hi 1:=by rw [rangeSize_one];split <;> omega
  show IsRangeIter _ _ (lo + ((0:Nat):Int) * 1) ((((hi - lo).toNat:Nat):Int) - ((0:Nat):Int)) 1;rw [e1,e2];exact Heap.get?_push_size _ rfl
 ·have e:b=(s.heap.push { cls:=.type "range", data:=.fields #[.int lo t,.int hi u,.int 1 v] }).objs.size:=by simpa using hb
  subst e;exact I1.nj (zB _) (I1.br.fresh (zB _))
def QH (ta:TA):TI:=fun σ H R=>ta σ H λvs H1=>∃ j:Int,vs=[.int j]/\-(2 ^ 62)<=j/\j < 2 ^ 62/\R (KO 0 j.toNat) H1
def QG (ta:TA):TI:=fun σ H R=>ta σ H λvs H1=>∃ i j:Int,vs=[.int i,.int j]/\(-(2 ^ 62)<=i/\i < 2 ^ 62/\-(2 ^ 62)<=j/\j < 2 ^ 62)/\R (KO i (j - i).toNat) H1
theorem b9 {a:Expr}{ta:TA}{p pos:Pos}(hg:Gl X "range")(hm:X.mg "range" = none)(ha:PA X [a] ta)(hs:starEach [a] X.env=[(false,eval a X.env)]:=by rfl):PI X tg (.Call (.Name "range" p) [a] [] pos) (QH ta):=by
 intro aa s σ H R I h;refine Call_ (cG I hg hm boot_range (zi (aX (ha pos aa s σ H _ I h) λus s1 Tn=>?_) hs rfl));obtain ⟨vs,H1,I1,r1,q1⟩:=Tn;obtain ⟨j,e,q1,q2,q⟩:=q1;subst e;cases r1 with
 | cons r rr=>
  cases rr;obtain ⟨t,rfl⟩:=r;exact call_range_1 (oF I1 (by omega) (by omega) q1 q2 (by simpa using q))
theorem uf {a b:Expr}{ta:TA}{p pos:Pos}(hg:Gl X "range")(hm:X.mg "range" = none)(ha:PA X [a,b] ta)(hs:starEach [a,b] X.env=[(false,eval a X.env),(false,eval b X.env)]:=by rfl)(LY:starEach [b] X.env=[(false,eval b X.env)]:=by rfl) :
  PI X tg (.Call (.Name "range" p) [a,b] [] pos) (QG ta):=by
 intro aa s σ H R I h;refine Call_ (cG I hg hm boot_range (zi (aX (ha pos aa s σ H _ I h) λus s1 Tj=>?_) (by rw [hs,LY]) (by rw [LY];rfl)));obtain ⟨vs,H1,I1,r1,q1⟩:=Tj;obtain ⟨i,j,e,⟨q1,q2,q3,q4⟩,q⟩:=q1;subst e;cases r1 with
 | cons r rr=>
  cases rr with
  | cons r' rr=>
   cases rr;obtain ⟨t,rfl⟩:=r;obtain ⟨t',rfl⟩:=r';exact call_range_2 (oF I1 q1 q2 q3 q4 q)
def Uh (wi:TI)(g:TG)(tb:TS):TS:=λD σ H=>wi σ H λJ H1=>∃ W:Nat->Nat->St->Hp->Prop,(∃ m,W 0 m σ H1)/\∀ i m σ H,W i m σ H ->
 (J.stop i H/\D.nx σ H)\/(J.go i H/\∃ N:St->Hp->Prop,(∀ bE H',N bE H'->∃ m',m' < m/\W (i + 1) m' bE H')/\∀ x H',J.rQ i H x H'->g x σ H' fun jq H2=>tb (D.lp N) jq H2)
def iS (fp:List Addr)(h:Heap):List (Addr×Obj):=fp.filterMap λb=>(h.get? b).map λo=>(b,o)
theorem wt {fp:List Addr}{h:Heap}{b:Addr}{o:Obj}(hb:b∈fp)(e:h.get? b=some o):(b,o)∈iS fp h:=yb.mpr ⟨b,hb,by rw [e];rfl⟩
theorem uo {fp:List Addr}{h:Heap}{p:Addr×Obj}(hp:p∈iS fp h):p.1∈fp/\h.get? p.1=some p.2:=by
 obtain ⟨b,hb,e⟩:=yb.mp hp;cases q:h.get? b with
 | none=>rw [q] at e;cases e
 | some o=>
  rw [q] at e;have e':(b,o)=p:=Option.some.inj e;subst e';exact ⟨hb,q⟩
theorem Inv.pinned {aa:List (Addr×Obj)}{σ:St}{H:Hp}{s:Shared}{fp:List Addr}(I:Inv X aa σ H s)(hf:∀ b∈fp,gQ X aa H b)(ho:∀ b∈fp,∃ o,s.heap.get? b=some o/\∀ v,o.data≠.cell v):Inv X (aa++iS fp s.heap) σ H s:=
 I.bO λp hp=>(zQ.mp hp).elim (λz=>I.pin p (zE _ z)) λz=>by
  obtain ⟨hb,e⟩:=uo z;obtain ⟨f0,f1,f2,_⟩:=hf p.1 hb;obtain ⟨o,e',d⟩:=ho p.1 hb;rw [e] at e';cases e';exact ⟨e,f0,f1,f2,d⟩
theorem Inv.dG {aa pl:List (Addr×Obj)}{σ:St}{H:Hp}{s:Shared}(I:Inv X (aa++pl) σ H s):Inv X aa σ H s:=I.bO λp hp=>I.pin p (zE _ (zT _ hp))
theorem wQ {iter:Expr}{body:List Stmt}{wi:TI}{g:TG}{tb:TS}{pos:Pos}(hp:PassesOwn (model X.prog X.w) X.A X.env X.xe)(hc:X.calm=true)(hi:PI X tg iter wi)(hg:PG X tg g)(hb:mJ X body tb)
  (hs:∀ x,foldedSetIterable iter X.env x=pure x:=by intro _;rfl):PS X (.For tg iter body [] pos) (Uh wi g tb):=by
 intro aa s σ H D I h;refine wpAny_For (aX (hi aa s σ H _ I h) λv s1 h1=>aX h1 λSa s2 h2=>?_) hs;obtain ⟨it,fp,tn,J,H2,e,I2,T,Nk,f2,W,⟨m0,w0⟩,turn⟩:=h2;subst e
 -- Yg stays true of Lb j7 objects through Lb loop
 have jN:∀ {H':Hp},(∀ b∈fp,H' b=none)->∀ b∈fp,gQ X aa H' b:=λhn b hb=>⟨hn b hb,(f2 b hb).2⟩;refine codeAny_forLoop_any (λn s'=>∃ i bE H',Inv X aa bE H' s'/\tn i s'.heap/\(∀ b∈fp,H' b=none)/\W i n bE H') ?_ m0 ⟨0,σ,H2,I2,Nk,λb hb=>(f2 b hb).1,w0⟩;rintro n s3 ⟨i,vh,H3,I3,Wt,XR,w3⟩;rcases turn i n vh H3 w3 with ⟨stop,qn⟩ | ⟨go,N,hN,step⟩
 ·refine wpAny_passesOwn hp (aX (T.done X rfl rfl rfl hc i aa s3 vh H3 X.xe I3 (jN XR) Wt stop) λr s4 ⟨hr,I4⟩=>?_);subst hr;exact wpAny_execs_nil ⟨vh,H3,I4,qn⟩
 ·refine wpAny_passesOwn hp (aX (T.item X rfl rfl rfl hc i aa s3 vh H3 X.xe I3 (jN XR) Wt go) λr s4 ⟨u,hr,h4⟩=>?_);subst hr;refine wpAny_passesOwn hp (aX h4 λ_ s5 Ti=>?_);obtain ⟨x,H5,I5,r5,y5,Lg,OI⟩:=Ti;have I5':=I5.pinned (jN OI) (T.obj _ _ Lg);refine wpAny_passesOwn hp (aX (hg _ s5 vh H5 x u _ I5' r5 (step x H5 y5)) λ_ s6 Tg=>?_);obtain ⟨Ye,H6,I6,q6⟩:=Tg;refine wpAny_passesOwn hp (aX (hb _ s6 Ye H6 _ I6 q6) λf s7 q7=>?_);have again:∀ {vg:St} {H7:Hp},Inv X (aa++iS fp s5.heap) vg H7 s7->N vg H7->∃ m,m < n/\∃ i bE H',Inv X aa bE H' s7/\tn i s7.heap/\(∀ b∈fp,H' b=none)/\W i m bE H':=λ{vg H7} I7 n7=>by
   obtain ⟨m',hm,w7⟩:=hN vg H7 n7;refine ⟨m',hm,i + 1,vg,H7,I7.dG,T.keep _ _ _ Lg λb hb o e=>(I7.pin (b,o) (zE _ (zE _ (wt hb e)))).1,λb hb=>?_,w7⟩;obtain ⟨o,e,d⟩:=T.obj _ _ Lg b hb;exact (I7.pin (b,o) (zE _ (zE _ (wt hb e)))).2.1
  cases f with
  | next=>obtain ⟨vg,H7,I7,n7⟩:=q7;exact again I7 n7
  | cont=>obtain ⟨vg,H7,I7,n7⟩:=q7;exact again I7 n7
  | brk=>obtain ⟨vg,H7,I7,q7⟩:=q7;exact ⟨vg,H7,I7.dG,q7⟩
  | ret v=>obtain ⟨x7,vg,H7,I7,r7,q7⟩:=q7;exact ⟨x7,vg,H7,I7.dG,r7,q7⟩
end
theorem fL {K:PySem.W.Frag}{a:Addr}{xs:List V}{g:TG}{tb:TS}{D:Ends}{σ:St}{H:Hp}(Pv:Nat->St->Hp->Prop)(h0:Pv 0 σ H)(hl:∀ i σ H,i<=xs.length->Pv i σ H->aJ K H a xs)
  (hs:∀ i x σ H,xs[i]?=some x->Pv i σ H->g x σ H fun jq H2=>tb (D.lp (Pv (i + 1))) jq H2) (hd:∀ σ H,Pv xs.length σ H->D.nx σ H) :
  ∃ W:Nat->Nat->St->Hp->Prop,(∃ m,W 0 m σ H)/\∀ i m σ H,W i m σ H ->
   ((Mp K a).stop i H/\D.nx σ H)\/((Mp K a).go i H/\∃ N:St->Hp->Prop,(∀ bE H',N bE H'->∃ m',m' < m/\W (i + 1) m' bE H')/\∀ x H',(Mp K a).rQ i H x H'->g x σ H' fun jq H2=>tb (D.lp N) jq H2):=by
 refine ⟨λi m σ H=>m=xs.length - i/\i<=xs.length/\Pv i σ H,⟨xs.length,by simp,zY _,h0⟩,?_⟩;rintro i m σ H ⟨rfl,hi,p⟩;have q:=hl i σ H hi p;by_cases cY:i < xs.length
 ·refine .inr ⟨⟨xs,xs[i],q,by simp [cY]⟩,Pv (i + 1),fun bE H' p'=>⟨xs.length - (i + 1),by omega,rfl,cY,p'⟩,λx H' y=>?_⟩;obtain ⟨e,y⟩:=y;subst e;exact hs i x σ _ (y xs q) p
 ·have e:i=xs.length:=by omega
  subst e;exact .inl ⟨⟨xs,q,zB _⟩,hd σ H p⟩
theorem sF {K:PySem.W.Frag}{a:Addr}{xs:List V}{g:TG}{tb:TS}{D:Ends}{σ:St}{H:Hp}(Pv:Nat->St->Hp->Prop)(h0:Pv 0 σ H)(hl:∀ i σ H,i<=xs.length->Pv i σ H->bC K H a xs)
  (hs:∀ i x σ H,xs[i]?=some x->Pv i σ H->g x σ H fun jq H2=>tb (D.lp (Pv (i + 1))) jq H2) (hd:∀ σ H,Pv xs.length σ H->D.nx σ H) :
  ∃ W:Nat->Nat->St->Hp->Prop,(∃ m,W 0 m σ H)/\∀ i m σ H,W i m σ H ->
   ((Mn K a).stop i H/\D.nx σ H)\/((Mn K a).go i H/\∃ N:St->Hp->Prop,(∀ bE H',N bE H'->∃ m',m' < m/\W (i + 1) m' bE H')/\∀ x H',(Mn K a).rQ i H x H'->g x σ H' fun jq H2=>tb (D.lp N) jq H2):=by
 refine ⟨λi m σ H=>m=xs.length - i/\i<=xs.length/\Pv i σ H,⟨xs.length,by simp,zY _,h0⟩,?_⟩;rintro i m σ H ⟨rfl,hi,p⟩;have q:=hl i σ H hi p;by_cases cY:i < xs.length
 ·refine .inr ⟨⟨xs,xs[i],q,by simp [cY]⟩,Pv (i + 1),fun bE H' p'=>⟨xs.length - (i + 1),by omega,rfl,cY,p'⟩,λx H' y=>?_⟩;obtain ⟨e,y⟩:=y;subst e;exact hs i x σ _ (y xs q) p
 ·have e:i=xs.length:=by omega
  subst e;exact .inl ⟨⟨xs,q,zB _⟩,hd σ H p⟩
theorem dQ {lo:Int}{n:Nat}{g:TG}{tb:TS}{D:Ends}{σ:St}{H:Hp}(Pv:Nat->St->Hp->Prop)(h0:Pv 0 σ H)
  (hs:∀ i σ H,i < n->Pv i σ H->g (.int (lo + i)) σ H fun jq H2=>tb (D.lp (Pv (i + 1))) jq H2) (hd:∀ σ H,Pv n σ H->D.nx σ H) :
  ∃ W:Nat->Nat->St->Hp->Prop,(∃ m,W 0 m σ H)/\∀ i m σ H,W i m σ H ->
   ((KO lo n).stop i H/\D.nx σ H)\/((KO lo n).go i H/\∃ N:St->Hp->Prop,(∀ bE H',N bE H'->∃ m',m' < m/\W (i + 1) m' bE H')/\∀ x H',(KO lo n).rQ i H x H'->g x σ H' fun jq H2=>tb (D.lp N) jq H2):=by
 refine ⟨λi m σ H=>m=n - i/\i<=n/\Pv i σ H,⟨n,by simp,zY _,h0⟩,?_⟩;rintro i m σ H ⟨rfl,hi,p⟩;by_cases cY:i < n
 ·refine .inr ⟨cY,Pv (i + 1),fun bE H' p'=>⟨n - (i + 1),by omega,rfl,cY,p'⟩,λx H' y=>?_⟩;obtain ⟨e,y⟩:=y;subst e y;exact hs i σ _ cY p
 ·have e:i=n:=by omega
  subst e;exact .inl ⟨zB _,hd σ H p⟩
theorem vn {c:TT}{tb:TS}{D:Ends}{σ:St}{H:Hp}(Pv:St->Hp->Prop)(μ:St->Hp->Nat)(h0:Pv σ H)
  (hs:∀ σ H,Pv σ H->c σ H λb H1=>if b=true then tb (D.lp fun bE H'=>Pv bE H'/\μ bE H' < μ σ H) σ H1 else D.nx σ H1)
  (mono:∀ σ H Q Q',(∀ b H1,Q b H1->Q' b H1)->c σ H Q->c σ H Q'):jJ c tb D σ H:=by
 refine ⟨λm σ H=>m=μ σ H/\Pv σ H,⟨_,rfl,h0⟩,?_⟩;rintro m σ H ⟨rfl,p⟩;refine mono σ H _ _ (λb H1 q=>?_) (hs σ H p);cases b with
 | true=>exact ⟨_,fun bE H' ⟨p',l⟩=>⟨_,l,rfl,p'⟩,q⟩
 | false=>exact q
abbrev R2:=V->V->Hp->VK->Prop
def gb (X:Cx)(f:Value->Value->Sem Value)(r:R2):Prop:=
 ∀ (aa:List (Addr×Obj)) (s:Shared) (σ:St) (H:Hp) (x y:V) (v u:Value) (Q:VK),Inv X aa σ H s->RelV x v->RelV y u->r x y H Q ->
  wpAny (model X.prog X.w) X.A (f v u) (EP X aa σ Q) X.xe s
def V7 (X:Cx)(f:Value->Sem Value)(r:V->Hp->VK->Prop):Prop:=
 ∀ (aa:List (Addr×Obj)) (s:Shared) (σ:St) (H:Hp) (x:V) (v:Value) (Q:VK),Inv X aa σ H s->RelV x v->r x H Q ->
  wpAny (model X.prog X.w) X.A (f v) (EP X aa σ Q) X.xe s
def dW (X:Cx)(f:Value)(r:List V->Hp->VK->Prop):Prop:=
 ∀ (aa:List (Addr×Obj)) (s:Shared) (σ:St) (H:Hp) (xs:List V) (us:List Value) (Q:VK),Inv X aa σ H s->Vals xs us->r xs H Q ->
  wpAny (model X.prog X.w) X.A (call f us) (EP X aa σ Q) X.xe s
def V8 (X:Cx)(r:V->Hp->(Bool->Hp->Prop)->Prop):Prop:=
 ∀ (aa:List (Addr×Obj)) (s:Shared) (σ:St) (H:Hp) (x:V) (v:Value) (Q:Bool->Hp->Prop),Inv X aa σ H s->RelV x v->r x H Q ->
  wpAny (model X.prog X.w) X.A (truthy v) (TP X aa σ Q) X.xe s
def Ld (r:R2)(ta tb:TE):TE:=fun σ H Q=>ta σ H λx H1=>tb σ H1 λy H2=>r x y H2 Q
def Nf (r:V->Hp->VK->Prop)(ta:TE):TE:=fun σ H Q=>ta σ H λx H1=>r x H1 Q
def rI (C:Int->Int->Prop)(g:Int->Int->V):R2:=λx y H Q=>∃ i j,x=.int i/\y=.int j/\C i j/\Q (g i j) H
def sd (g:Int->Int->V):R2:=λx y H Q=>∃ i j,x=.int i/\y=.int j/\Q (g i j) H
def rU (g:Int->V):V->Hp->VK->Prop:=λx H Q=>∃ i,x=.int i/\Q (g i) H
section
variable {X:Cx}{a b c:Expr}{ta tb tc:TE}{pos:Pos}
theorem OX (ha:PE X a ta)(hb:PE X b tb){aa:List (Addr×Obj)}{s:Shared}{σ:St}{H:Hp}{R:V->V->Hp->Prop}(I:Inv X aa σ H s)
  (h:ta σ H λx H1=>tb σ H1 λy H2=>R x y H2) {Q:Value->Shared->Prop}{f:Value->Value->Sem Value}
  (hf:∀ v u s2 x y H2,Inv X aa σ H2 s2->RelV x v->RelV y u->R x y H2->wpAny (model X.prog X.w) X.A (f v u) Q X.xe s2) :
  wpAny (model X.prog X.w) X.A (eval a X.env) (λv aN=>wpAny (model X.prog X.w) X.A (eval b X.env) (λu jL=>wpAny (model X.prog X.w) X.A (f v u) Q X.xe jL) X.xe aN) X.xe s:=by
 refine aX (ha aa s σ H _ I h) λv s1 Tf=>?_;obtain ⟨x,H1,I1,r1,q1⟩:=Tf;refine aX (hb aa s1 σ H1 _ I1 q1) λu s2 Te=>?_;obtain ⟨y,H2,I2,r2,q2⟩:=Te;exact hf v u s2 x y H2 I2 r1 r2 q2
theorem xg {op:Operator}{r:R2}(ho:gb X (binaryOp op) r)(ha:PE X a ta)(hb:PE X b tb):PE X (.BinOp a op b pos) (Ld r ta tb):=by intro aa s σ H Q I h;exact wpAny_BinOp (OX ha hb I h λv u s2 x y H2 I2 rx ry q=>ho aa s2 σ H2 x y v u Q I2 rx ry q)
theorem cJ {op:UnaryOp}{r:V->Hp->VK->Prop}(ho:V7 X (unaryOp op) r)(ha:PE X a ta):PE X (.UnaryOp op a pos) (Nf r ta):=by intro aa s σ H Q I h;exact UnaryOp_ (aX (ha aa s σ H _ I h) λv s1 ⟨x,H1,I1,r1,q1⟩=>ho aa s1 σ H1 x v Q I1 r1 q1)
theorem Qk {f:Value->Value->Sem Value}{C:Int->Int->Prop}{g:Int->Int->Int}
  (rule:∀ (i j:Int) (t u:Tok) (s:Shared) (Q:Value->Shared->Prop) (E:Value->Shared->Prop),C i j->Q (.int (g i j) s.toks) { s with toks:=s.toks + 1 }->wpAny (model X.prog X.w) X.A (f (.int i t) (.int j u)) Q E s) :
  gb X f (rI C λi j=>.int (g i j)):=by
 intro aa s σ H x y v u Q I rx ry h;obtain ⟨i,j,rfl,rfl,hc,q⟩:=h;obtain ⟨t,rfl⟩:=rx;obtain ⟨t',rfl⟩:=ry;exact rule i j t t' s _ _ hc ⟨.int (g i j),H,I.tok _,⟨_,rfl⟩,q⟩
theorem LH {f:Value->Value->Sem Value}{g:Int->Int->Int}
  (rule:∀ (i j:Int) (t u:Tok) (s:Shared) (Q:Value->Shared->Prop) (E:Value->Shared->Prop),Q (.int (g i j) s.toks) { s with toks:=s.toks + 1 }->wpAny (model X.prog X.w) X.A (f (.int i t) (.int j u)) Q E s) :
  gb X f (sd λi j=>.int (g i j)):=by
 intro aa s σ H x y v u Q I rx ry h;obtain ⟨i,j,rfl,rfl,q⟩:=h;obtain ⟨t,rfl⟩:=rx;obtain ⟨t',rfl⟩:=ry;exact rule i j t t' s _ _ ⟨.int (g i j),H,I.tok _,⟨_,rfl⟩,q⟩
theorem LI {f:Value->Value->Sem Value}{g:Int->Int->Bool}
  (rule:∀ (i j:Int) (t u:Tok) (s:Shared) (Q:Value->Shared->Prop) (E:Value->Shared->Prop),Q (.bool (g i j)) s->wpAny (model X.prog X.w) X.A (f (.int i t) (.int j u)) Q E s) :
  gb X f (sd λi j=>.bl (g i j)):=by
 intro aa s σ H x y v u Q I rx ry h;obtain ⟨i,j,rfl,rfl,q⟩:=h;obtain ⟨t,rfl⟩:=rx;obtain ⟨t',rfl⟩:=ry;exact rule i j t t' s _ _ ⟨.bl (g i j),H,I,rfl,q⟩
def rP (i j:Int):Prop:=0<=j/\j<=1000000/\i.natAbs < 2 ^ 64
def uX (i j:Int):Prop:=(-(2 ^ 64) < i/\i < 2 ^ 64)\/(-(2 ^ 64) < j/\j < 2 ^ 64)
theorem uX.ok {i j:Int}(h:uX i j):IntMulOk i j:=by
 rcases h with ⟨h1,h2⟩ | ⟨h1,h2⟩
 ·exact .of_left (intBits_le_64 h1 h2)
 ·exact .of_right (intBits_le_64 h1 h2)
theorem xt:gb X (binaryOp .Add) (sd λi j=>.int (i + j)):=LH λ_ _ _ _ _ _ _ q=>add_int q
theorem cF:gb X (binaryOp .Sub) (sd λi j=>.int (i - j)):=LH λ_ _ _ _ _ _ _ q=>sub_int q
theorem dD:gb X (binaryOp .Mult) (rI uX λi j=>.int (i * j)):=Qk λ_ _ _ _ _ _ _ hc q=>mul_int q hc.ok
theorem fD:gb X (binaryOp .Mod) (rI (λ_ j=>0 < j) λi j=>.int (i % j)):=Qk λi j _ _ _ _ _ hc q=>by
 have h1:(0:Int) < j:=hc;exact mod_int' (by omega) (by rw [Int.fmod_eq_emod_of_nonneg i (by omega)];exact q)
theorem gG:gb X (binaryOp .Pow) (rI rP λi j=>.int (i ^ j.toNat)):=Qk λ_ _ _ _ _ _ _ hc q=>pow_int_small hc.1 hc.2.1 hc.2.2 q
theorem Jy:gb X (binaryOp .LShift) (rI rP λi j=>.int (i * 2 ^ j.toNat)):=Qk λ_ _ _ _ _ _ _ hc q=>lshift_int_small hc.1 hc.2.1 hc.2.2 q
theorem JB:gb X (binaryOp .BitAnd) (sd λi j=>.int (Builtin.bitAnd i j)):=LH λ_ _ _ _ _ _ _ q=>and_int q
theorem NJ:gb X (binaryOp .BitXor) (sd λi j=>.int (Builtin.bitXor i j)):=LH λ_ _ _ _ _ _ _ q=>xor_int q
theorem Ym {f:Value->Sem Value}{g:Int->Int}
  (rule:∀ (i:Int) (t:Tok) (s:Shared) (Q:Value->Shared->Prop) (E:Value->Shared->Prop),Q (.int (g i) s.toks) { s with toks:=s.toks + 1 }->wpAny (model X.prog X.w) X.A (f (.int i t)) Q E s) :
  V7 X f (rU λi=>.int (g i)):=by
 intro aa s σ H x v Q I rx h;obtain ⟨i,rfl,q⟩:=h;obtain ⟨t,rfl⟩:=rx;exact rule i t s _ _ ⟨.int (g i),H,I.tok _,⟨_,rfl⟩,q⟩
theorem wd:V7 X (unaryOp .USub) (rU λi=>.int (-i)):=Ym λ_ _ _ _ _ q=>neg_int q
end
def Pf:V->Bool
 | .bG=>true | .int _=>true | .bl _=>true | .str _=>true | _=>false
def P9:V->Bool
 | .bG=>true | .int _=>true | .str _=>true | _=>false
def Qa:V->Bool
 | .bG=>true | .bl _=>true | .str _=>true | _=>false
def Yw:V->Bool
 | .sS _=>true | _=>false
def t6:V->V->Bool
 | .bG,y=>Pf y | .int _,y=>P9 y | .bl _,y=>Qa y | .str _,y=>Pf y | .sS _,y=>Yw y | _,_=>false
def Qi:R2:=λx y H Q=>t6 x y=true/\Q (.bl (decide (x=y))) H
def Qh:R2:=λx y H Q=>t6 x y=true/\Q (.bl (!decide (x=y))) H
theorem sM {i j:Int}:decide (V.int i=V.int j)=(i == j):=by rw [xE];simp
theorem Kr {i j:Bool}:decide (V.bl i=V.bl j)=(i == j):=by rw [xE];simp
theorem sL {i j:Str}:decide (V.str i=V.str j)=(i == j):=by rw [xE];simp
theorem sN {i j:Array UInt8}:decide (V.sS i=V.sS j)=(i.toList == j.toList):=by rw [xE];cases i;cases j;simp
section
variable {X:Cx}{a b c:Expr}{ta tb tc:TE}{pos:Pos}
theorem xx {aa:List (Addr×Obj)}{σ:St}{H:Hp}{s:Shared}{Q:VK}{k k':Bool}(I:Inv X aa σ H s)(q:Q (.bl k) H)(e:k=k'):EP X aa σ Q (.bool k') s:=by subst e;exact ⟨.bl k,H,I,rfl,q⟩
theorem bX:gb X (compareOp .Eq) Qi:=by
 intro aa s σ H x y v u Q I rx ry h;obtain ⟨hs,q⟩:=h;cases x with
 | bG=>
  cases rx;cases y with
  | bG=>cases ry;exact PySem.EqNone.eq_none_none (xx I q (by simp))
  | bl j=>cases ry;exact PySem.EqNone.eq_none_bool (xx I q (by simp))
  | int j=>obtain ⟨t',rfl⟩:=ry;exact PySem.EqNone.eq_none_int (xx I q (by simp))
  | str j=>obtain ⟨t',rfl⟩:=ry;exact PySem.EqNone.eq_none_str (xx I q (by simp))
  | _=>exact absurd (show false=true from hs) zK
 | bl i=>
  cases rx;cases y with
  | bG=>cases ry;exact PySem.EqNone.eq_bool_none (xx I q (by simp))
  | bl j=>cases ry;exact eq_bool (xx I q Kr)
  | str j=>obtain ⟨t',rfl⟩:=ry;exact PySem.EqMixed.eq_bool_str (xx I q (by simp))
  | _=>exact absurd (show false=true from hs) zK
 | int i=>
  obtain ⟨t,rfl⟩:=rx;cases y with
  | bG=>cases ry;exact PySem.EqNone.eq_int_none (xx I q (by simp))
  | int j=>obtain ⟨t',rfl⟩:=ry;exact eq_int (xx I q sM)
  | str j=>obtain ⟨t',rfl⟩:=ry;exact PySem.EqMixed.eq_int_str (xx I q (by simp))
  | _=>exact absurd (show false=true from hs) zK
 | str i=>
  obtain ⟨t,rfl⟩:=rx;cases y with
  | bG=>cases ry;exact PySem.EqNone.eq_str_none (xx I q (by simp))
  | bl j=>cases ry;exact PySem.EqMixed.eq_str_bool (xx I q (by simp))
  | int j=>obtain ⟨t',rfl⟩:=ry;exact PySem.EqMixed.eq_str_int (xx I q (by simp))
  | str j=>obtain ⟨t',rfl⟩:=ry;exact eq_str (xx I q sL)
  | _=>exact absurd (show false=true from hs) zK
 | sS i=>
  obtain ⟨t,rfl⟩:=rx;cases y with
  | sS j=>obtain ⟨t',rfl⟩:=ry;exact PySem.W.eq_bytes (xx I q sN)
  | _=>exact absurd (show false=true from hs) zK
 | _=>cases y <;> exact absurd (show false=true from hs) zK
theorem ic:gb X (compareOp .NotEq) Qh:=by
 intro aa s σ H x y v u Q I rx ry h;obtain ⟨hs,q⟩:=h;cases x with
 | bG=>
  cases rx;cases y with
  | bG=>cases ry;exact PySem.EqNone.ne_none_none (xx I q (by simp))
  | bl j=>cases ry;exact PySem.EqNone.ne_none_bool (xx I q (by simp))
  | int j=>obtain ⟨t',rfl⟩:=ry;exact PySem.EqNone.ne_none_int (xx I q (by simp))
  | str j=>obtain ⟨t',rfl⟩:=ry;exact PySem.EqNone.ne_none_str (xx I q (by simp))
  | _=>exact absurd (show false=true from hs) zK
 | bl i=>
  cases rx;cases y with
  | bG=>cases ry;exact PySem.EqNone.ne_bool_none (xx I q (by simp))
  | bl j=>cases ry;exact ne_bool (xx I q (congrArg not Kr))
  | str j=>obtain ⟨t',rfl⟩:=ry;exact PySem.EqMixed.ne_bool_str (xx I q (by simp))
  | _=>exact absurd (show false=true from hs) zK
 | int i=>
  obtain ⟨t,rfl⟩:=rx;cases y with
  | bG=>cases ry;exact PySem.EqNone.ne_int_none (xx I q (by simp))
  | int j=>obtain ⟨t',rfl⟩:=ry;exact ne_int (xx I q (congrArg not sM))
  | str j=>obtain ⟨t',rfl⟩:=ry;exact PySem.EqMixed.ne_int_str (xx I q (by simp))
  | _=>exact absurd (show false=true from hs) zK
 | str i=>
  obtain ⟨t,rfl⟩:=rx;cases y with
  | bG=>cases ry;exact PySem.EqNone.ne_str_none (xx I q (by simp))
  | bl j=>cases ry;exact PySem.EqMixed.ne_str_bool (xx I q (by simp))
  | int j=>obtain ⟨t',rfl⟩:=ry;exact PySem.EqMixed.ne_str_int (xx I q (by simp))
  | str j=>obtain ⟨t',rfl⟩:=ry;exact ne_str (xx I q (congrArg not sL))
  | _=>exact absurd (show false=true from hs) zK
 | sS i=>
  obtain ⟨t,rfl⟩:=rx;cases y with
  | sS j=>obtain ⟨t',rfl⟩:=ry;exact PySem.W.ne_bytes (xx I q (congrArg not sN))
  | _=>exact absurd (show false=true from hs) zK
 | _=>cases y <;> exact absurd (show false=true from hs) zK
theorem jf:gb X (compareOp .Lt) (sd λi j=>.bl (decide (i < j))):=LI λ_ _ _ _ _ _ _ q=>lt_int q
theorem gc:gb X (compareOp .LtE) (sd λi j=>.bl (decide (i<=j))):=LI λ_ _ _ _ _ _ _ q=>le_int q
theorem gf:gb X (compareOp .Gt) (sd λi j=>.bl (decide (j < i))):=LI λ_ _ _ _ _ _ _ q=>gt_int q
theorem MC:gb X (compareOp .GtE) (sd λi j=>.bl (decide (j<=i))):=LI λ_ _ _ _ _ _ _ q=>ge_int q
theorem aB (b:Expr){op:CmpOp}(h:op≠.In:=by decide)(h2:op≠.NotIn:=by decide):behindInMarks op b=false:=by
 have e1:(op == CmpOp.In)=false:=by cases op <;> first | rfl | exact absurd rfl h
 have e2:(op == CmpOp.NotIn)=false:=by cases op <;> first | rfl | exact absurd rfl h2
 cases b <;> simp [behindInMarks,e1,e2]
theorem cM {op:CmpOp}{r:R2}(ho:gb X (compareOp op) r)(ha:PE X a ta)(hb:PE X b tb)(hm:behindInMarks op b=false):PE X (.Compare a [op] [b] pos) (Ld r ta tb):=by intro aa s σ H Q I h;exact wpAny_Compare1 (OX ha hb I h λv u s2 x y H2 I2 rx ry q=>ho aa s2 σ H2 x y v u Q I2 rx ry q) hm
def lP (t:TE):TT:=fun σ H Q=>t σ H λx H'=>∃ k,x=.bl k/\Q k H'
theorem xi {op:CmpOp}{r:R2}(ho:gb X (compareOp op) r)(ha:PE X a ta)(hb:PE X b tb)(hm:behindInMarks op b=false):PT X (.Compare a [op] [b] pos) (lP (Ld r ta tb)):=by intro aa s σ H Q I h;refine wpAny_isTrue_Compare1 (aX (ha aa s σ H _ I h) λv s1 Td=>?_) hm;obtain ⟨x,H1,I1,r1,q1⟩:=Td;refine aX (hb aa s1 σ H1 _ I1 q1) λu s2 Tc=>?_;obtain ⟨y,H2,I2,r2,q2⟩:=Tc;refine aX (ho aa s2 σ H2 x y v u _ I2 r1 r2 q2) λc s3 S9=>?_;obtain ⟨z,H3,I3,r3,k,e,q3⟩:=S9;subst e;cases r3;exact wpAny_truthy_bool ⟨H3,I3,q3⟩
def iM (r r':R2)(ta tb tc:TE):TE:=fun σ H Q=>ta σ H λx H1=>tb σ H1 λy H2=>r x y H2 λz H3=>∃ k,z=.bl k /\
 (if k=true then tc σ H3 λw' H4=>r' y w' H4 Q else Q (.bl false) H3)
theorem jY {op NL:CmpOp}{r r':R2}(ho:gb X (compareOp op) r)(o8:gb X (compareOp NL) r')(ha:PE X a ta)(hb:PE X b tb)(hc:PE X c tc)
  (hm:lastMarks [op,NL] [b,c]=false:=by with_unfolding_all rfl):PE X (.Compare a [op,NL] [b,c] pos) (iM r r' ta tb tc):=by
 intro aa s σ H Q I h;refine Compare_chain (aX (ha aa s σ H _ I h) λv s1 S8=>?_) hm;obtain ⟨x,H1,I1,r1,q1⟩:=S8;refine chain_link (aX (hb aa s1 σ H1 _ I1 q1) λu s2 S7=>?_);obtain ⟨y,H2,I2,r2,q2⟩:=S7;refine aX (ho aa s2 σ H2 x y v u _ I2 r1 r2 q2) λd s3 S6=>?_;obtain ⟨z,H3,I3,r3,k,e,q3⟩:=S6;subst e;cases r3;refine wpAny_truthy_bool ?_;cases k with
 | false=>exact ite_ff ⟨.bl false,H3,I3,rfl,q3⟩
 | true=>exact ite_tt (chain_last (aX (hc aa s3 σ H3 _ I3 q3) λw' s4 ⟨z',H4,I4,r4,q4⟩=>o8 aa s4 σ H4 y z' u w' Q I4 r2 r4 q4))
theorem vV {op NL:CmpOp}{r r':R2}(ho:gb X (compareOp op) r)(o8:gb X (compareOp NL) r')(ha:PE X a ta)(hb:PE X b tb)(hc:PE X c tc)
  (hm:lastMarks [op,NL] [b,c]=false:=by with_unfolding_all rfl):PT X (.Compare a [op,NL] [b,c] pos) (lP (iM r r' ta tb tc)):=by
 intro aa s σ H Q I h;refine isTrue_chain (aX (ha aa s σ H _ I h) λv s1 S5=>?_) hm;obtain ⟨x,H1,I1,r1,q1⟩:=S5;refine test_link (aX (hb aa s1 σ H1 _ I1 q1) λu s2 S4=>?_);obtain ⟨y,H2,I2,r2,q2⟩:=S4;refine aX (ho aa s2 σ H2 x y v u _ I2 r1 r2 q2) λd s3 S2=>?_;obtain ⟨z,H3,I3,r3,k,e,q3⟩:=S2;subst e;cases r3;refine wpAny_truthy_bool ?_;cases k with
 | false=>
  obtain ⟨k',e',q'⟩:=q3;cases e';exact ite_ff ⟨H3,I3,q'⟩
 | true=>
  refine ite_tt (test_last (aX (hc aa s3 σ H3 _ I3 q3) λw' s4 S1=>?_));obtain ⟨z',H4,I4,r4,q4⟩:=S1;refine aX (o8 aa s4 σ H4 y z' u w' _ I4 r2 r4 q4) λd' s5 S0=>?_;obtain ⟨z2,H5,I5,r5,k2,e2,q5⟩:=S0;subst e2;cases r5;exact wpAny_truthy_bool ⟨H5,I5,q5⟩
def Rv (K:PySem.W.Frag)(x:V)(H:Hp)(k:Bool):Prop:=
 match x with
 | .bG=>k=false
 | .bl b=>k=b
 | .int i=>k=(i != 0)
 | .str y=>y.length<=sizeLine/\k=((y.length:Int) != 0)
 | .sS y=>y.size<=sizeLine/\k=((y.size:Int) != 0)
 | .ref p=>(∃ xs,aJ K H p xs/\k=!xs.isEmpty)\/(∃ xs,bC K H p xs/\k=!xs.isEmpty)\/∃ aE,H p=some (.dK aE)/\k=!aE.isEmpty
 | _=>False
theorem qT {κ:Type}{aE:List (κ×V)}{vs:List (κ×Value)}(r:KV aE vs):(!vs.isEmpty)=!aE.isEmpty:=by cases r <;> rfl
theorem j8 {xs:List V}{au:List Value}(r:Vals xs au):(!au.toArray.isEmpty)=!xs.isEmpty:=by cases r <;> simp
theorem iW:(sizeLine:Nat) < 2 ^ 63:=by rw [sizeLine_eq];decide
theorem M8:V8 X (λx H Q=>∃ k,Rv X.K x H k/\Q k H):=by
 intro aa s σ H x v Q I rx h;obtain ⟨k,e,q⟩:=h;have hl:=iW;have hs:sizeLine=16777216:=sizeLine_eq;cases x with
 | bG=>
  cases rx;have e':k=false:=e;subst e';exact truthy_none ⟨H,I,q⟩
 | bl b=>
  cases rx;have e':k=b:=e;subst e';exact wpAny_truthy_bool ⟨H,I,q⟩
 | int i=>
  obtain ⟨t,rfl⟩:=rx;have e':k=(i != 0):=e;subst e';exact PySem.P.truthy_int ⟨H,I,q⟩
 | str y=>
  obtain ⟨t,rfl⟩:=rx;obtain ⟨hy,e'⟩:y.length<=sizeLine/\k=((y.length:Int) != 0):=e;subst e';exact PySem.P.truthy_str (by omega) ⟨H,I.tok _,q⟩
 | sS y=>
  obtain ⟨t,rfl⟩:=rx;obtain ⟨hy,e'⟩:y.size<=sizeLine/\k=((y.size:Int) != 0):=e;subst e';exact PySem.W.truthy_bytes (by omega) ⟨H,I.tok _,q⟩
 | ref p=>
  cases rx;have e':(∃ xs,aJ X.K H p xs/\k=!xs.isEmpty)\/(∃ xs,bC X.K H p xs/\k=!xs.isEmpty)\/∃ aE,H p=some (.dK aE)/\k=!aE.isEmpty:=e;rcases e' with ⟨xs,hx,e'⟩ | ⟨xs,hx,e'⟩ | ⟨aE,hx,e'⟩
  ·subst e';obtain ⟨au,r,pl,hz⟩:=I.list hx;have hlen:=r.length;exact wpAny_truthy_list pl.isList (by simp only [zM];omega) ⟨H,I.tok _,by rw [j8 r];exact q⟩
  ·subst e';obtain ⟨au,r,pl,hz⟩:=I.tuple hx;have hlen:=r.length;exact truthy_tuple pl (by simp only [zM];omega) ⟨H,I.tok _,by rw [j8 r];exact q⟩
  ·subst e';obtain ⟨hz,hS,vs,r,m⟩:aE.length<=sizeLine/\(p == sysModules)=false/\∃ vs,KV aE vs/\s.heap.DictOf (bH X.prog X.w) p vs:=I.br p _ hx;have hlen:aE.length=vs.length:=Paired.length r;exact wpAny_truthy_dict hS m (by omega) ⟨H,I.tok _,by rw [qT r];exact q⟩
 | _=>exact (show False from e).elim
theorem oJ (ha:PE X a ta)(he:∀ whole,isTrue a X.env whole=(do let v <- whole;standAt a.pos;holding [v] (truthy v))) :
  PT X a (fun σ H Q=>ta σ H λx H'=>∃ k,Rv X.K x H' k/\Q k H'):=by
 intro aa s σ H Q I h;exact isTrue_plain (aX (ha aa s σ H _ I h) λv s1 ⟨x,H1,I1,r1,q1⟩=>M8 aa s1 σ H1 x v Q I1 r1 q1) (he _)
theorem vals1 {x:V}{us:List Value}(r:Vals [x] us):∃ u,us=[u]/\RelV x u:=by
 cases r with
 | cons r1 r2=>cases r2;exact ⟨_,rfl,r1⟩
theorem vals2 {x y:V}{us:List Value}(r:Vals [x,y] us):∃ u w',us=[u,w']/\RelV x u/\RelV y w':=by
 cases r with
 | cons r1 r2=>
  cases r2 with
  | cons r3 r4=>cases r4;exact ⟨_,_,rfl,r1,r3⟩
theorem fW (hc:X.calm=true):dW X (.builtin "max") (λxs H Q=>∃ i j,xs=[.int i,.int j]/\Q (.int (if j > i then j else i)) H):=by
 intro aa s σ H xs us Q I r h;obtain ⟨i,j,rfl,q⟩:=h;obtain ⟨u,w',rfl,⟨t,rfl⟩,⟨t',rfl⟩⟩:=vals2 r;refine max_two_ints (I.ok.hd hc) λh' tk k=>⟨_,H,I.kept k,?_,q⟩;by_cases hj:j > i
 ·rw [if_pos hj,if_pos hj];exact ⟨_,rfl⟩
 ·rw [if_neg hj,if_neg hj];exact ⟨_,rfl⟩
theorem i6 (hc:X.calm=true):dW X (.builtin "min") (λxs H Q=>∃ i j,xs=[.int i,.int j]/\Q (.int (if j < i then j else i)) H):=by
 intro aa s σ H xs us Q I r h;obtain ⟨i,j,rfl,q⟩:=h;obtain ⟨u,w',rfl,⟨t,rfl⟩,⟨t',rfl⟩⟩:=vals2 r;refine min_two_ints (I.ok.hd hc) λh' tk k=>⟨_,H,I.kept k,?_,q⟩;by_cases hj:j < i
 ·rw [if_pos hj,if_pos hj];exact ⟨_,rfl⟩
 ·rw [if_neg hj,if_neg hj];exact ⟨_,rfl⟩
end
structure O6 (h:Heap) (x dx C:Addr) (mA:Str->Option Value):Prop where
 obj:h.get? x=some (PySem.W.instObj C dx)
 ns:h.Ns1 dx mA
 ne:dx≠x
theorem uu {h:Heap}{dx:Addr}{mA:Str->Option Value}(n:h.Ns1 dx mA):∃ od,h.get? dx=some od/\∀ name,PySem.W.lookIn name od=some (mA name):=by
 obtain ⟨o,es,ep,ho,hd,hk,_,hm⟩:=n;refine ⟨o,ho,λname=>?_⟩;have e:=hm name;unfold nsFind findBy at e;rw [<-Array.find?_toList] at e;unfold PySem.W.lookIn;rw [hd];dsimp only;split
 ·rename_i y q;rw [q] at e;exact congrArg some e
 ·rename_i q;rw [q] at e;have a:es.toList.any (·.refKey)=false:=by
   rw [List.any_eq_false];intro y hy;obtain ⟨z,t,Vw⟩:=hk y (Array.mem_toList_iff.mp hy);simp [DictEntry.refKey,Vw]
  have a':¬ es.toList.any (·.refKey)=true:=by rw [a];exact zK
  rw [if_neg a'];exact congrArg some e
theorem O6.look {h:Heap}{x dx C:Addr}{mA:Str->Option Value}(I:O6 h x dx C mA):∃ od,PySem.W.InstAt h x (PySem.W.instObj C dx) C (some od)/\∀ name,PySem.W.lookIn name od=some (mA name):=
 let ⟨od,ho,hl⟩:=uu I.ns
 ⟨od,⟨I.obj,rfl,rfl,ho⟩,hl⟩
section
variable {prog:Program}{w:World}{A:Around}{E:Value->Shared->Prop}{s:Shared}{K:PySem.W.Frag}{x dx C f:Addr}{mA:Str->Option Value}{name:Str}{v:Value}
end
theorem kO.some_of {v:V}{o:Option Value}(r:kO (some v) o):∃ u,o=some u/\RelV v u:=by
 cases o with
 | none=>exact (show False from r).elim
 | some u=>exact ⟨u,rfl,r⟩
section
variable {P:Program}{w:World}{H H':Hp}{h h':Heap}{a C dx:Addr}{fs fs':List (Str×V)}
theorem LR (br:fP P w H h)(e:H a=some (.ins C dx fs)):∃ mA,O6 h a dx C mA/\(∀ f,kO (fs.lookup f) (mA f))/\PySem.Within mA (fs.map (·.1))/\fs.length<=1000/\H dx=some (.own a):=by obtain ⟨d,z,ne,ob,mA,n,r,q⟩:=(show aY P w H h a (.ins C dx fs) from br a _ e);exact ⟨mA,⟨ob,n,ne⟩,r,q,z,d⟩
end
structure Wh (K:PySem.W.Frag) (C:Addr):Prop where
 pg:PySem.W.plainGet K C Str.empty=true
 hd:PySem.W.hasDictIn K C=true
 po:PySem.W.plainOver K C=true
 sa:PySem.W.findIn K (.ref C) "__setattr__" = some (some (.builtin "object.__setattr__"))
theorem Wh.get {K:PySem.W.Frag}{C:Addr}(c:Wh K C)(f:Str):PySem.W.plainGet K C f=true:=c.pg
section
variable {X:Cx}{aa:List (Addr×Obj)}{σ:St}{H:Hp}{s:Shared}{a C dx:Addr}{fs:List (Str×V)}{f:Str}{v:V}{A:Around}{E:Value->Shared->Prop}
end
section
variable {X:Cx}{o e value:Expr}{f:Str}{pos pos' Nb:Pos}{ta tv:TE}
end
section
variable {X:Cx}{aa:List (Addr×Obj)}{σ:St}{H:Hp}{s:Shared}{A:Around}{E:Value->Shared->Prop}{Q:Value->Shared->Prop}{c:Value}{b:Bool}
inductive i8 (K:PySem.W.Frag) (H:Hp):V->Value->Prop where
 | bG:i8 K H .bG (.type "NoneType")
 | bl (x:Bool):i8 K H (.bl x) (.type "bool")
 | int (i:Int):i8 K H (.int i) (.type "int")
 | str (x:Str):i8 K H (.str x) (.type "str")
 | OJ (x:UInt64):i8 K H (.OJ x) (.type "float")
 | lst {a:Addr}{xs:List V} (e:H a=some (.lst xs)):i8 K H (.ref a) (.type "list")
 | ni {a:Addr}{o:Obj}{xs:List V} (e:H a=some (.ni o (.lst xs))):i8 K H (.ref a) (.type "list")
 | tup {a:Addr}{xs:List V} (e:H a=some (.tup xs)):i8 K H (.ref a) (.type "tuple")
 | dK {a:Addr}{aE:List (Key×V)} (e:H a=some (.dK aE)):i8 K H (.ref a) (.type "dict")
 | dT {a:Addr}{aE:List (List Key×V)} (e:H a=some (.dT aE)):i8 K H (.ref a) (.type "dict")
 | ins {a C dx:Addr}{fs:List (Str×V)} (e:H a=some (.ins C dx fs)) (cl:Wh K C) (ha:PySem.W.findIn K (.ref C) "__class__" = some (some (.builtin "object.__class__")))
   (hn:PySem.W.specialIn K (.builtin "object.__class__") "__get__" = some (some (.builtin "getset_descriptor.__get__"))) (Sd:PySem.W.takesIn K (.builtin "object.__class__")=some true)
   (hm:PySem.W.mroIn K C (.type "object")=some true):i8 K H (.ref a) (.ref C)
theorem uB {x:V}{u t:Value}(I:Inv X aa σ H s)(rx:RelV x u)(ty:i8 X.K H x t)(e:PySem.W.kitOne X.K t c=some b)(h:∀ tk,Q (.bool b) { s with toks:=tk }) :
  wpAny (model X.prog X.w) A (call (.builtin "isinstance") [u,c]) Q E s:=by
 cases ty with
 | bG=>cases (show u=Value.none from rx);exact yA PySem.W.kitx_none I.nU True.intro e (λz=>nomatch z) h
 | bl y=>cases (show u=Value.bool y from rx);exact yA PySem.W.kitx_bool I.nU True.intro e (λz=>nomatch z) h
 | int i=>obtain ⟨t,q⟩:=(show ∃ t,u=Value.int i t from rx);cases q;exact yA PySem.W.kitx_int I.nU True.intro e (λz=>nomatch z) h
 | str y=>obtain ⟨t,q⟩:=(show ∃ t,u=Value.str y t from rx);cases q;exact yA PySem.W.kitx_str I.nU True.intro e (λz=>nomatch z) h
 | OJ y=>obtain ⟨t,q⟩:=(show ∃ t,u=Value.float y t from rx);cases q;exact yA PySem.W.kitx_float I.nU True.intro e (λz=>nomatch z) h
 | @lst a xs ea=>
  cases (show u=Value.ref a from rx);obtain ⟨_,_,n,_,h1⟩:=(show aY X.prog X.w H s.heap a (.lst xs) from I.br a _ ea);exact yA PySem.W.kitx_list I.nU ⟨_,h1,rfl⟩ e (λz=>nomatch z) h
 | @ni a ob xs ea=>
  cases (show u=Value.ref a from rx);obtain ⟨_,_,_,n,_,h1⟩:=(show aY X.prog X.w H s.heap a (.ni ob (.lst xs)) from I.br a _ ea);exact yA PySem.W.kitx_list I.nU ⟨_,h1,rfl⟩ e (λz=>nomatch z) h
 | @tup a xs ea=>
  cases (show u=Value.ref a from rx);obtain ⟨_,_,_,p⟩:=(show aY X.prog X.w H s.heap a (.tup xs) from I.br a _ ea);obtain ⟨o,h1,h2,_⟩:=p;exact yA PySem.W.kitx_tuple I.nU ⟨o,h1,h2⟩ e (λz=>nomatch z) h
 | @dK a aE ea=>
  cases (show u=Value.ref a from rx);obtain ⟨_,_,vs,_,p⟩:=(show aY X.prog X.w H s.heap a (.dK aE) from I.br a _ ea);obtain ⟨o,es,ep,h1,h2,_⟩:=p;exact yA PySem.W.kitx_dict I.nU ⟨o,h1,h2.1⟩ e (λz=>nomatch z) h
 | @dT a aE ea=>
  cases (show u=Value.ref a from rx);obtain ⟨_,_,xs,_,o,es,ep,h1,h2,_⟩:=(show aY X.prog X.w H s.heap a (.dT aE) from I.br a _ ea);exact yA PySem.W.kitx_dict I.nU ⟨o,h1,h2.1⟩ e (λz=>nomatch z) h
 | @ins a C dx fs ea cl ha hn Sd hm=>
  cases (show u=Value.ref a from rx);obtain ⟨mA,O,_⟩:=LR I.br ea;obtain ⟨od,J,_⟩:=O.look;exact yA (PySem.W.kitx_own (cl.get _) cl.hd ha hn Sd hm) I.nU J e (λz=>nomatch z) h
end
structure cX (k:Nat) (A:Around):Prop where
 hd:A.handled=none
 dp:A.depth + 3 * k + 5 < recursionLimit
 un:A.units + 16 * k + 200 < cLine
 gd:A.guards=some []
theorem cX.mono {j k:Nat}{A:Around}(r:cX k A)(h:j<=k):cX j A:=⟨r.hd,by have:=r.dp;omega,by have:=r.un;omega,r.gd⟩
theorem cX.deeper {k:Nat}{A:Around}(r:cX (k + 1) A)(env:Env):cX k (A.deeper env):=
 ⟨r.hd,by have:=r.dp;show A.depth + 1 + 3 * k + 5 < _;omega,by have:=r.un;show A.units + 3 + 16 * k + 200 < _;omega,r.gd⟩
theorem cX.in1 {k:Nat}{A:Around}(r:cX (k + 1) A):cX k A.in1:=
 ⟨r.hd,by have:=r.dp;show A.depth + 3 * k + 5 < _;omega,by have:=r.un;show A.units + 1 + 16 * k + 200 < _;omega,r.gd⟩
theorem cX.depth {k:Nat}{A:Around}(r:cX k A):A.depth < recursionLimit:=by have:=r.dp;omega
theorem cX.units {k:Nat}{A:Around}(r:cX k A):A.units + 64 < cLine:=by have:=r.un;omega
def ql:TA:=λ_ H Q=>Q [] H
def jK (ta:TE)(tr:TA):TA:=fun σ H Q=>ta σ H λx H1=>tr σ H1 λxs H2=>Q (x::xs) H2
section
variable {X:Cx}{e:Expr}{es:List Expr}{te:TE}{t:TA}{pos:Pos}
theorem cj:PA X [] ql:=λ_ _ _ _ H Q I h=>Calls.spliced_nil ⟨[],H,I,.nil,h⟩
theorem LD (ha:PE X e te)(hr:PA X es t)(hs:starEach (e::es) X.env=(false,eval e X.env)::starEach es X.env:=by rfl):PA X (e::es) (jK te t):=by intro pos aa s σ H Q I h;rw [hs];show wpAny _ _ (spliced ((false,eval e X.env)::backTo pos (starEach es X.env))) _ _ s;refine Calls.spliced_cons (aX (ha aa s σ H _ I h) λu s1 SY=>?_);obtain ⟨x,H1,I1,r1,q1⟩:=SY;exact aX (hr pos aa s1 σ H1 _ I1 q1) λus s2 ⟨xs,H2,I2,r2,q2⟩=>⟨x::xs,H2,I2,.cons r1 r2,q2⟩
def vz (t:TA):TE:=fun σ H Q=>t σ H λxs H1=>xs.length<=sizeLine/\∀ p,H1 p=none->Q (.ref p) (upd H1 p (.tup xs))
def vD (t:TA):TE:=fun σ H Q=>t σ H λxs H1=>xs.length<=sizeLine/\∀ p,H1 p=none->Q (.ref p) (upd H1 p (.lst xs))
theorem xz {x1}(h:PA X es t):PE X (.Tuple es x1 pos) (vz t):=by intro aa s σ H Q I hq;refine wpAny_Tuple_spliced (aX (h pos aa s σ H _ I hq) λus s1 SX=>?_);obtain ⟨xs,H1,I1,r,z,q⟩:=SX;refine ⟨by rw [<-r.length];exact z,?_⟩;have hf:H1 s1.heap.objs.size=none:=I1.br.fresh (zB _);refine ⟨.ref s1.heap.objs.size,upd H1 s1.heap.objs.size (.tup xs),I1.laid (t':=s1.toks) (λb u e=>Heap.get?_push_of_some _ e) (zB _) ?_,rfl,q _ hf⟩;exact ⟨⟨z,j5⟩,us,r,⟨_,Heap.get?_push_size _ rfl,rfl,_,rfl⟩⟩
theorem wA (h:PA X es t):PE X (.List es pos) (vD t):=by intro aa s σ H Q I hq;refine wpAny_List_spliced (aX (h pos aa s σ H _ I hq) λus s1 SW=>?_);obtain ⟨xs,H1,I1,r,z,q⟩:=SW;refine ⟨by rw [<-r.length];exact z,?_⟩;have hf:H1 s1.heap.objs.size=none:=I1.br.fresh (zB _);refine ⟨.ref s1.heap.objs.size,upd H1 s1.heap.objs.size (.lst xs),I1.laid (t':=s1.toks) (λb u e=>Heap.get?_push_of_some _ e) (zB _) ?_,rfl,q _ hf⟩;exact ⟨z,us,0,r,Heap.get?_push_size _ rfl⟩
end
abbrev Sp:=List V->Hp->VK->XK->Prop
abbrev KS:=List Env->Hp->Shared->XK->Value->Shared->Prop
structure rN (P:Program) (w:World) (K:PySem.W.Frag) (mg:Str->Option Value) (base:Heap) (A:Around) (outer:List Env) (s:Shared) (H:Hp):Prop where
 frames:A.frames=some outer
 mod:Mod K mg base
 bs:∀ b o,base.get? b=some o->s.heap.get? b=some o/\H b=none
 Ky:base.objs.size<=s.heap.objs.size
 iY:s.heap.FunFrames base outer
 OG:∀ b∈u9 outer,H b=none
 br:fP P w H s.heap
 bare:AllBare s.gens
def CE (outer:List Env)(P:Program)(w:World)(H:Hp)(s:Shared)(Q:VK)(u:Value)(s':Shared):Prop:=
 ∃ v H',s'.os=s.os/\AllBare s'.gens/\Un (u9 outer) [] H H' s.heap s'.heap/\fP P w H' s'.heap/\RelV v u/\Q v H'
def CR (CX:KS)(outer:List Env)(P:Program)(w:World)(H:Hp)(s:Shared)(Q:VK)(E:XK)(r:Result)(s':Shared):Prop:=
 match r with
 | .ok (.ret u)=>CE outer P w H s Q u s'
 | .ok _=>False
 | .error e=>CX outer H s E e s'
structure aT (P:Program) (w:World) (K:PySem.W.Frag) (mg:Str->Option Value) (base:Heap) (CX:KS) (k:Nat) (f:Addr) (fd:FuncData) (ps:List Str) (sp:Sp):Prop where
 len:∀ vs H Q E,sp vs H Q E->vs.length=ps.length
 run:∀ (A:Around) (outer:List Env) (s:Shared) (H:Hp) (args:Args) (us:List Value) (vs:List V) (Q:VK) (E:XK),cX k A->rN P w K mg base A outer s H->BindsTo s fd args (ps.zip us)->Vals vs us->sp vs H Q E ->
  codeAny (model P w) A (.call (.ref f) args) (CR CX outer P w H s Q E) s
theorem rN.in1 {P:Program}{w:World}{K:PySem.W.Frag}{mg:Str->Option Value}{base:Heap}{A:Around}{outer:List Env}{s:Shared}{H:Hp}(e:rN P w K mg base A outer s H) :
  rN P w K mg base A.in1 outer s H:=⟨e.frames,e.mod,e.bs,e.Ky,e.iY,e.OG,e.br,e.bare⟩
section
variable {X:Cx}{aa:List (Addr×Obj)}{σ:St}{H:Hp}{s s':Shared}
theorem Inv.Rl (I:Inv X aa σ H s):rN X.prog X.w X.K X.mg X.base X.A X.stack s H:=
 ⟨I.ok.frames,I.ok.mod,I.bs,zu I.ok.Ky I.sz,I.stack,I.mP,I.br,I.bare⟩
theorem Inv.after {Q:VK}{u:Value}(I:Inv X aa σ H s)(h:CE X.stack X.prog X.w H s Q u s'):EP X aa σ Q u s':=by obtain ⟨v,H',os,bare,un,br,r,q⟩:=h;obtain ⟨hh,g,d,t,YF⟩:=s';obtain rfl:YF=s.os:=os;exact ⟨v,H',I.call (h':=hh) (g':=g) (d':=d) (t':=t) (ch:=[]) un br bare (λb z=>absurd z (by simp)),r,q⟩
end
def oq (sp:Sp)(MM:List V)(E:XK)(t:TA):TE:=fun σ H Q=>t σ H λvs H1=>sp (vs++MM) H1 Q E
def Binds (K:PySem.W.Frag)(fd:FuncData)(ps:List Str)(ds:List Value):Prop:=
 ∀ (s:Shared) (us:List Value),K.In s.heap->(us++ds).length=ps.length->BindsTo s fd ⟨us,[]⟩ (ps.zip (us++ds))
theorem Binds.all {K:PySem.W.Frag}{fd:FuncData}{ps:List Str}(h:∀ us:List Value,us.length=ps.length->bindArgs fd ⟨us,[]⟩=pure (ps.zip us)):Binds K fd ps []:=λs us _ hl=>by
 rw [yp] at hl ⊢;exact .of_eq (h us hl)
def Passes (CX:KS)(X:Cx)(E:XK):Prop:=∀ (aa:List (Addr×Obj)) (σ:St) (H:Hp) (s:Shared) (e:Value) (s':Shared),Inv X aa σ H s->CX X.stack H s E e s'->X.xe e s'
section
variable {X:Cx}{CX:KS}{k:Nat}{f C:Addr}{fd:FuncData}{ps:List Str}{sp:Sp}{MM:List V}{ds:List Value}{E:XK}{x m:Str}{p pos apos:Pos}{e o:Expr}{es:List Expr}{ta:TE}{t:TA}
theorem Nz {aa:List (Addr×Obj)}{σ:St}{H:Hp}{s:Shared}{Q:VK}{us:List Value}{vs:List V}(F:aT X.prog X.w X.K X.mg X.base CX k f fd ps sp)(hr:cX k X.A)(hb:Binds X.K fd ps ds)(hd:Vals MM ds)(hx:Passes CX X E)
  (I:Inv X aa σ H s) (r:Vals vs us) (h:sp (vs++MM) H Q E):wpAny (model X.prog X.w) X.A (call (.ref f) us) (EP X aa σ Q) X.xe s:=by
 have r2:Vals (vs++MM) (us++ds):=r.append hd;have hl:(us++ds).length=ps.length:=by rw [<-r2.length];exact F.len _ _ _ _ h
 refine wpAny_call (codeAny_mono (F.run X.A X.stack s H ⟨us,[]⟩ (us++ds) (vs++MM) Q E hr I.Rl (hb s us I.nU hl) r2 h) λr s' hq=>?_);cases r with
 | error e=>exact hx aa σ H s e s' I hq
 | ok fl=>
  cases fl with
  | ret u=>exact I.after hq
  | next=>exact False.elim hq
  | brk=>exact False.elim hq
  | cont=>exact False.elim hq
theorem xT (F:aT X.prog X.w X.K X.mg X.base CX k f fd ps sp)(hr:cX k X.A)(hg:Gl X x)(hm:X.mg x=some (.ref f))(hk:zJ X.K (.ref f)=true)(hb:Binds X.K fd ps ds)(hd:Vals MM ds)(hx:Passes CX X E)
  (ha:PA X (e::es) t) (Q8:(x == ("__debug__" : Str))=false:=by decide) (he:starEach (e::es) X.env=(false,eval e X.env)::starEach es X.env:=by rfl) (Pq:(backTo pos (starEach es X.env)).any (·.1)=false:=by rfl) :
  PE X (.Call (.Name x p) (e::es) [] pos) (oq sp MM E t):=by
 intro aa s σ H Q I h;refine wpAny_Call_Name_kw (sy I hg hm ?_ Q8);refine PySem.W.callWith_K (h₀:=X.base) I.ok.mod.UT hk (aX (ha pos aa s σ H _ I h) λus s1 SV=>?_) he Pq;obtain ⟨vs,H1,I1,r,q⟩:=SV;refine ⟨I1.nU,?_⟩;exact Nz F hr hb hd hx I1 r q
end
section
variable {X:Cx}{CX:KS}{k:Nat}{f C:Addr}{fd:FuncData}{ps ks:List Str}{sp:Sp}{E:XK}{x m:Str}{p pos apos Zf:Pos}{e o:Expr}{es:List Expr}{kws:List Keyword}{te ta:TE}{t tk:TA}{nm:Option Str}
variable {g:List Value->List Value->List Value}{gV:List V->List V->List V}
end
structure ay (N P:List Str) (sc:Scope):Prop where
 kind:sc.kind=.function
 co:sc.isCoroutine=false
 gen:sc.isGenerator=false
 nd:N.Nodup
 pre:N.take P.length=P
 par:∀ x∈P,sc.names.lookup x=some .local\/sc.names.lookup x=some .cell
 NO:∀ y∈sc.names,y.2≠.free
theorem mD {kindOf:Str->Option NameKind}{x:Str}:∀ {binds:List (Str×Value)}{m:Str->Option Value},(∀ v,(x,v) ∉ binds)->bindL kindOf binds m x=m x
 | [],_,_=>rfl
 | (n,v)::r,m,h=>by
  unfold bindL;rw [mD λw hw=>h w (zp _ hw)];split
  ·have:x≠n:=by rintro rfl;exact h v yJ
   simp [this]
  ·rfl
theorem mF {kindOf:Str->Option NameKind}{x:Str}:∀ {binds:List (Str×Value)}{m:Str->Option Value},(∀ v,(x,v) ∉ binds)->bindC kindOf binds m x=m x
 | [],_,_=>rfl
 | (n,v)::r,m,h=>by
  unfold bindC;rw [mF λw hw=>h w (zp _ hw)];split
  ·rfl
  ·have:x≠n:=by rintro rfl;exact h v yJ
   simp [this]
theorem mE {kindOf:Str->Option NameKind}{x:Str}{v:Value}:∀ {P:List Str}{vs:List Value}{i:Nat}{m:Str->Option Value},P.Nodup->P[i]?=some x->vs[i]?=some v->kindOf x=some .local ->
  bindL kindOf (P.zip vs) m x=some v
 | [],_,_,_,_,h,_,_=>by simp at h
 | _::_,[],_,_,_,_,h,_=>by simp at h
 | p::P,w::vs,0,m,nd,h1,h2,hk=>by
  simp at h1 h2;subst h1;subst h2;show bindL kindOf ((p,w)::P.zip vs) m p=_;unfold bindL;rw [mD λv hv=>(yf.mp nd).1 (xF hv).1,if_pos hk];simp
 | p::P,w::vs,i + 1,m,nd,h1,h2,hk=>by
  show bindL kindOf ((p,w)::P.zip vs) m x=_;unfold bindL;exact mE (i:=i) (yf.mp nd).2 (by simpa using h1) (by simpa using h2) hk
theorem mH {kindOf:Str->Option NameKind}{x:Str}{v:Value}:∀ {P:List Str}{vs:List Value}{i:Nat}{m:Str->Option Value},P.Nodup->P[i]?=some x->vs[i]?=some v->kindOf x≠some .local ->
  bindC kindOf (P.zip vs) m x=some v
 | [],_,_,_,_,h,_,_=>by simp at h
 | _::_,[],_,_,_,_,h,_=>by simp at h
 | p::P,w::vs,0,m,nd,h1,h2,hk=>by
  simp at h1 h2;subst h1;subst h2;show bindC kindOf ((p,w)::P.zip vs) m p=_;unfold bindC;rw [mF λv hv=>(yf.mp nd).1 (xF hv).1,if_neg hk];simp
 | p::P,w::vs,i + 1,m,nd,h1,h2,hk=>by
  show bindC kindOf ((p,w)::P.zip vs) m x=_;unfold bindC;exact mH (i:=i) (yf.mp nd).2 (by simpa using h1) (by simpa using h2) hk
def start (N:List Str)(vs:List V):St:=vs.map some++List.replicate (N.length - vs.length) none
def kC (CX:KS)(P:Program)(w:World)(K:PySem.W.Frag)(mg:Str->Option Value)(base:Heap)(N:List Str)(qual:Str)(scope:Scope)(f:Addr)(cd:Value)(A:Around)(outer:List Env)(s:Shared)(H:Hp)(E:XK):Cx where
 prog:=P
 w:=w
 K:=K
 mg:=mg
 base:=base
 A:=A.deeper (envOfC qual scope s.heap.objs.size f cd)
 N:=N
 cL:=s
 uW:=H
 env:=envOfC qual scope s.heap.objs.size f cd
 outer:=outer
 stack:=envOfC qual scope s.heap.objs.size f cd::outer
 ex:=[]
 calm:=true
 fn:=λ_=>true
 pn:=[]
 xe:=λe s'=>wpAny (model P w) (A.deeper (envOfC qual scope s.heap.objs.size f cd)) (leaving (envOfC qual scope s.heap.objs.size f cd) e) (λ_ lR=>CX outer H s E e lR) (λe' lR=>CX outer H s E e' lR) s'
theorem pQ {sc:Scope}{n:Nat}{x:Str}(h:sc.names.lookup x=some .cell):∃ c,(cellsFrom n sc.names []).lookup x=some c:=by have q:=PySem.W.cellsFrom_some sc.names n [] (.inl h);exact Option.isSome_iff_exists.mp q
theorem uD {CX:KS}{P:Program}{w:World}{K:PySem.W.Frag}{mg:Str->Option Value}{base:Heap}{N ps:List Str}{qual:Str}{scope:Scope}{f:Addr}{cd:Value}{A:Around}{outer:List Env}{s s1:Shared}{H:Hp}{E:XK}{us:List Value}{vs:List V}
  (S:ay N ps scope) (hd:A.handled=none) (e0:rN P w K mg base A outer s H) (hl:vs.length=ps.length) (r:Vals vs us)
  (x:InCallC s s.heap.objs.size (bindL (envOfC qual scope s.heap.objs.size f cd).kindOf (ps.zip us) λ_=>none) (cellsFrom (s.heap.objs.size + 1) scope.names []) (bindC (envOfC qual scope s.heap.objs.size f cd).kindOf (ps.zip us) λ_=>none) s1) :
  Inv (kC CX P w K mg base N qual scope f cd A outer s H E) [] (start N vs) H s1:=by
 have Pq:ps.length<=N.length:=by have:=congrArg List.length S.pre;rw [zk] at this;omega
 obtain ⟨h1,tk,rfl,hk⟩:=x.done;have UH:∀ b:Addr,b ∉ (kC CX P w K mg base N qual scope f cd A outer s H E).ex:=λb z=>absurd (show b∈([]:List Addr) from z) (by simp);refine ⟨⟨e0.mod,S.kind,rfl,rfl,zB _,λy z c h1 h2=>?_,λy hy=>?_,λy c _ h=>?_,λ_=>hd,Around.frames_deeper e0.frames,.inr ⟨rfl,rfl⟩,λb z=>absurd z (UH b),e0.bs,e0.Ky,λb _ _=>UH b,λb z=>absurd z (UH b),e0.iY,e0.OG⟩,
  rfl,e0.bare,Un.kept hk,⟨_,x.toInCall.ns,λi y v h1 h2 h3=>?_⟩,λy c h=>⟨_,x.cell y c h⟩,e0.br.fresh (zB _),λy c h=>?_,λp hp=>absurd (show p∈([]:List (Addr×Obj)) from hp) (by simp),e0.br.kept hk,?_⟩
 ·exact name_of_addr x.apart (zn h1) (zn h2)
 ·have hy:scope.names.lookup y=some .cell\/scope.names.lookup y=some .free:=hy;rcases hy with hy | hy
  ·exact pQ hy
  ·exact absurd rfl (S.NO _ (zn hy))
 ·exact xH (x.above y c (zn h))
 ·have hi:i < vs.length:=by
   unfold start at h2;by_cases hi:i < vs.length
   ·exact hi
   ·rw [zW (by simpa using hi)] at h2;rw [List.getElem?_replicate] at h2;split at h2 <;> cases h2
  have ha:vs[i]?=some v:=by
   unfold start at h2;rw [zf (by simpa using hi),zG] at h2;cases e:vs[i]? with
   | none=>rw [e] at h2;cases h2
   | some a=>rw [e] at h2;cases h2;rfl
  obtain ⟨u,hu,rv⟩:=r.get ha;have hp:ps[i]?=some y:=by
   rw [<-S.pre,List.getElem?_take_of_lt (by omega)];exact h1
  have WH:ps.Nodup:=by rw [<-S.pre];exact S.nd.sublist (List.take_sublist _ _)
  refine ⟨u,rv,?_⟩;rcases S.par y (zD hp) with k | k
  ·exact .inl ⟨k,mE WH hp hu k⟩
  ·obtain ⟨c,e⟩:=pQ (n:=s.heap.objs.size + 1) k;refine .inr ⟨.inl k,c,e,?_⟩;have q:=x.cell y c e;rw [mH WH hp hu (by show scope.names.lookup y≠_;rw [k];decide)] at q;exact q
 ·exact e0.br.fresh (xH (x.above y c (zn h)))
 ·unfold start;show _=N.length;rw [zO,zA,List.length_replicate];omega
theorem MK {CX:KS}{P:Program}{w:World}{K:PySem.W.Frag}{mg:Str->Option Value}{base:Heap}{k:Nat}{f:Addr}{name qual:Str}{params:Arguments}{body:List Stmt}{scope:Scope}{dV kV doc pm bK ct oc:Value}{an od:Option Addr}
  {LF:Array (Option Value)}{N ps:List Str}{sp:Sp} (lk:K.lookup f=some ⟨oc,od,.func (xI name qual params body scope dV kV doc pm an bK ct),LF⟩) (pB:PySem.W.codeIn K bK qual=true) (S:ay N ps scope)
  (len:∀ vs H Q E,sp vs H Q E->vs.length=ps.length)
  (ir:∀ (A:Around) (outer:List Env) (s:Shared) (H:Hp) (vs:List V) (Q:VK) (E:XK),cX k (A.deeper (envOfC qual scope s.heap.objs.size f bK))->sp vs H Q E ->
   ∃ t,mJ (kC CX P w K mg base N qual scope f bK A outer s H E) body t/\t { nx:=λ_ H'=>Q .bG H',rt:=Q } (start N vs) H) :
  aT P w K mg base CX (k + 1) f (xI name qual params body scope dV kV doc pm an bK ct) ps sp:=by
 refine ⟨len,λA outer s H args us vs Q E hr e0 hb r KZ=>?_⟩;have hl:=len _ _ _ _ KZ;have KX:K.In s.heap:=e0.mod.UT.keeps λb o e=>(e0.bs b o e).1;have lim:s.heap.NoLimit:=e0.mod.nolimit.keeps λb o e=>(e0.bs b o e).1;have QY:∀ y∈ps.zip us,scope.names.lookup y.1=some .local\/(scope.names.lookup y.1=some .cell/\((cellsFrom (s.heap.objs.size + 1) scope.names []).lookup y.1).isSome=true):=λ⟨n,v⟩ hy=>by
  rcases S.par n (xF hy).1 with q | q
  ·exact .inl q
  ·exact .inr ⟨q,PySem.W.cellsFrom_some _ _ _ (.inl q)⟩
 refine codeAny_call_function hr.depth (KX _ _ lk) rfl S.co S.gen rfl (PySem.W.codeRec_of KX pB) (hb _ _ _ _ ?_);refine wpAny_newFunctionEnv_cells S.kind QY λenv he s1 x=>?_;subst he;refine ⟨lim.keeps x.toInCall.keep,codeAny_func ?_⟩;obtain ⟨t,ht,hq⟩:=ir A outer s H vs Q E (hr.deeper _) KZ;have I:Inv (kC CX P w K mg base N qual scope f bK A outer s H E) [] (start N vs) H s1:=uD S hr.hd e0 hl r x;refine wpAny_mono (ht [] s1 (start N vs) H _ I hq) (λfl s' hs=>?_) λe s' hs=>hs;have fin:∀ {bE:St}{H':Hp}{v:V}{u:Value},Inv (kC CX P w K mg base N qual scope f bK A outer s H E) [] bE H' s'->RelV v u->Q v H'->CE outer P w H s Q u s':=
  λ{bE H' v u} J rv q=>⟨v,H',J.os,J.bare,J.base,J.br,rv,q⟩
 cases fl with
 | ret u=>
  obtain ⟨v,bE,H',J,rv,q⟩:=hs;exact fin J rv q
 | next=>
  obtain ⟨bE,H',J,q⟩:=hs;exact fin (v:=V.bG) (u:=Value.none) J rfl q
 | brk=>
  obtain ⟨_,_,_,q⟩:=hs;exact False.elim q
 | cont=>
  obtain ⟨_,_,_,q⟩:=hs;exact False.elim q
section
variable {X:Cx}{x:Str}{p pos:Pos}{e:Expr}{es:List Expr}{t:TA}{id T:String}{r:List V->Hp->VK->Prop}
def Pd (r:List V->Hp->VK->Prop)(t:TA):TE:=fun σ H Q=>t σ H λvs H1=>r vs H1 Q
theorem xc (hc:dW X (.builtin id) r)(hg:Gl X x)(hm:X.mg x=none)(hv:bootBuiltins x=some (.builtin id))(ha:PA X (e::es) t)(hn:x ≠ "__name__" := by decide)(Q8:(x == ("__debug__" : Str))=false:=by decide)
  (he:starEach (e::es) X.env=(false,eval e X.env)::starEach es X.env:=by rfl) (Pq:(backTo pos (starEach es X.env)).any (·.1)=false:=by rfl):PE X (.Call (.Name x p) (e::es) [] pos) (Pd r t):=by
 intro aa s σ H Q I h;refine wpAny_Call_Name_kw (cG I hg hm hv ?_ hn Q8);exact PyProof.Rows.callWith_builtin1 (aX (ha pos aa s σ H _ I h) λus s1 ⟨vs,H1,I1,r1,q1⟩=>hc aa s1 σ H1 vs us Q I1 r1 q1) he Pq
theorem iU (hc:dW X (.type T) r)(hg:Gl X x)(hm:X.mg x=none)(hv:bootBuiltins x=some (.type T))(ha:PA X (e::es) t)(hn:x ≠ "__name__" := by decide)(Q8:(x == ("__debug__" : Str))=false:=by decide)
  (he:starEach (e::es) X.env=(false,eval e X.env)::starEach es X.env:=by rfl) (Pq:(backTo pos (starEach es X.env)).any (·.1)=false:=by rfl):PE X (.Call (.Name x p) (e::es) [] pos) (Pd r t):=by
 intro aa s σ H Q I h;refine wpAny_Call_Name_kw (cG I hg hm hv ?_ hn Q8);exact zi (aX (ha pos aa s σ H _ I h) λus s1 ⟨vs,H1,I1,r1,q1⟩=>hc aa s1 σ H1 vs us Q I1 r1 q1) he Pq
end
section
variable {κ:Type} [DecidableEq κ]
def cS (aE:List (κ×V))(k:κ):Option V:=(aE.find? λkv=>decide (kv.1=k)).map (·.2)
def putK (aE:List (κ×V))(k:κ)(v:V):List (κ×V):=
 if (aE.any λkv=>decide (kv.1=k))=true then aE.map (λkv=>if kv.1=k then (kv.1,v) else kv) else aE++[(k,v)]
theorem wR {p:κ×V}{r:List (κ×V)}{k:κ}(e:p.1=k):cS (p::r) k=some p.2:=by simp [cS,yq,e]
theorem wS {p:κ×V}{r:List (κ×V)}{k:κ}(e:¬ p.1=k):cS (p::r) k=cS r k:=by simp [cS,yq,e]
theorem fu (k:κ):∀ aE:List (κ×V),(aE.any λkv=>decide (kv.1=k))=(cS aE k).isSome
 | []=>rfl
 | p::r=>by
  rw [yu];by_cases e:p.1=k
  ·simp only [wR e,decide_eq_true e,Bool.true_or,Option.isSome_some]
  ·rw [wS e,decide_eq_false e,Bool.false_or];exact fu k r
theorem n8 (k j:κ)(y:V):∀ aE:List (κ×V),cS (aE.map λkv=>if kv.1=k then (kv.1,y) else kv) j=(cS aE j).map λx=>if j=k then y else x
 | []=>rfl
 | p::r=>by
  have ih:=n8 k j y r;rw [za];by_cases h:p.1=k
  ·rw [if_pos h];by_cases e:p.1=j
   ·rw [wR (p:=(p.1,y)) e,wR e,ye,if_pos (e.symm.trans h)]
   ·rw [wS (p:=(p.1,y)) e,wS e,ih]
  ·rw [if_neg h];by_cases e:p.1=j
   ·rw [wR (p:=p) e,wR e,ye,if_neg (λz=>h (e.trans z))]
   ·rw [wS (p:=p) e,wS e,ih]
theorem lM (k j:κ)(y:V):∀ aE:List (κ×V),cS aE k=none->cS (aE++[(k,y)]) j=if j=k then some y else cS aE j
 | [],_=>by
  by_cases e:k=j
  ·rw [if_pos e.symm];exact wR (p:=(k,y)) e
  ·rw [if_neg (λz=>e z.symm)];exact wS (p:=(k,y)) e
 | p::r,hn=>by
  rw [yz];have hk:¬ p.1=k:=λz=>by rw [wR z] at hn;cases hn
  rw [wS hk] at hn;have ih:=lM k j y r hn;by_cases e:p.1=j
  ·rw [wR e,wR e,if_neg (λz=>hk (e.trans z))]
  ·rw [wS e,wS e,ih]
theorem n6 (aE:List (κ×V))(k j:κ)(y:V):cS (putK aE k y) j=if j=k then some y else cS aE j:=by
 unfold putK;by_cases a:(aE.any λkv=>decide (kv.1=k))=true
 ·rw [if_pos a,n8];rw [fu] at a;by_cases e:j=k
  ·obtain ⟨x,hx⟩:=Option.isSome_iff_exists.mp a;rw [if_pos e,e,hx,ye,if_pos rfl]
  ·rw [if_neg e];cases cS aE j with
   | none=>rfl
   | some x=>rw [ye,if_neg e]
 ·rw [if_neg a];refine lM k j y aE ?_;rw [fu] at a;cases q:cS aE k with
  | none=>rfl
  | some x=>rw [q] at a;exact (a rfl).elim
theorem fG (aE:List (κ×V))(k:κ)(v:V):(putK aE k v).length<=aE.length + 1:=by
 unfold putK;split
 ·rw [zA];omega
 ·rw [zO,zZ,yI];omega
theorem kO.uC {o:Option V}{u:Option Value}(r:kO o u):o.isSome=u.isSome:=by
 cases o with
 | none=>cases u with
  | none=>rfl
  | some _=>exact (show False from r).elim
 | some _=>cases u with
  | none=>exact (show False from r).elim
  | some _=>rfl
theorem KV.val {aE:List (κ×V)}{vs:List (κ×Value)}(r:KV aE vs)(k:κ):kO (cS aE k) (valueAt vs k):=by
 unfold KV at r;induction r with
 | nil=>exact True.intro
 | @cons p q ps qs h t ih=>
  obtain ⟨h1,h2⟩:=h;by_cases e:p.1=k
  ·have e':q.1=k:=h1.symm.trans e;have b:valueAt (q::qs) k=some q.2:=by simp [valueAt,yq,e']
   rw [wR e,b];exact h2
  ·have e':¬ q.1=k:=λz=>e (h1.trans z);have b:valueAt (q::qs) k=valueAt qs k:=by simp [valueAt,yq,e']
   rw [wS e,b];exact ih
theorem KV.any {aE:List (κ×V)}{vs:List (κ×Value)}(r:KV aE vs)(k:κ):(aE.any λkv=>decide (kv.1=k))=vs.any λkv=>decide (kv.1=k):=by
 unfold KV at r;induction r with
 | nil=>rfl
 | cons h t ih=>rw [yu,yu,ih,h.1]
theorem KV.NB {aE:List (κ×V)}{vs:List (κ×Value)}(r:KV aE vs)(k:κ){y:V}{u:Value}(ry:RelV y u) :
  KV (aE.map λkv=>if kv.1=k then (kv.1,y) else kv) (vs.map λkv=>if kv.1=k then (kv.1,u) else kv):=by
 unfold KV at r ⊢;induction r with
 | nil=>exact .nil
 | @cons p q ps qs h t ih=>
  rw [za,za];refine .cons ?_ ih;obtain ⟨h1,h2⟩:=h;by_cases e:p.1=k
  ·rw [if_pos e,if_pos (h1.symm.trans e)];exact ⟨h1,ry⟩
  ·rw [if_neg e,if_neg (λz=>e (h1.trans z))];exact ⟨h1,h2⟩
theorem KV.put {aE:List (κ×V)}{vs:List (κ×Value)}(r:KV aE vs)(k:κ){y:V}{u:Value}(ry:RelV y u):KV (putK aE k y) (stored vs k u):=by
 unfold putK stored;rw [r.any k];by_cases e:(vs.any λkv=>decide (kv.1=k))=true
 ·rw [if_pos e,if_pos e];exact r.NB k ry
 ·rw [if_neg e,if_neg e];exact Paired.snoc r ⟨rfl,ry⟩
theorem KV.length {aE:List (κ×V)}{vs:List (κ×Value)}(r:KV aE vs):aE.length=vs.length:=Paired.length r
end
theorem JS {P:Program}{w:World}{k:Key}{u:Value}(r:RelV (kV k) u):(bH P w).is k u=true:=by
 cases k with
 | inl i=>obtain ⟨t,e⟩:=(show ∃ t,u=Value.int i t from r);subst e;exact oU P w i t
 | inr x=>obtain ⟨t,e⟩:=(show ∃ t,u=Value.str x t from r);subst e;exact oS P w x t
theorem l6 {P:Program}{w:World}:∀ {ks:List Key}{us:List Value},Vals (ks.map kV) us->ItemsAre (bH P w) ks us
 | [],_,r=>by rw [yU] at r;cases r;exact .nil
 | k::ks,_,r=>by
  rw [za] at r;cases r with
  | cons h t=>exact .cons (JS h) (l6 t)
abbrev KT (H:Hp):List (List Key×V)->List (List Key×Addr×Value)->Prop:=Paired λp q=>p.1=q.1/\H q.2.1=some (.tup (p.1.map kV))/\RelV p.2 q.2.2
theorem KT.val {H:Hp}{aE:List (List Key×V)}{xs:List (List Key×Addr×Value)}(r:KT H aE xs)(k:List Key):kO (cS aE k) ((atKey xs k).map (·.2)):=by
 induction r with
 | nil=>exact True.intro
 | @cons p q ps qs h t ih=>
  obtain ⟨h1,_,h2⟩:=h;by_cases e:p.1=k
  ·have e':q.1=k:=h1.symm.trans e;have b:atKey (q::qs) k=some q.2:=by simp [atKey,yq,e']
   rw [wR e,b];exact h2
  ·have e':¬ q.1=k:=λz=>e (h1.trans z);have b:atKey (q::qs) k=atKey qs k:=by simp [atKey,yq,e']
   rw [wS e,b];exact ih
theorem KT.NB {H:Hp}{aE:List (List Key×V)}{xs:List (List Key×Addr×Value)}(r:KT H aE xs)(k:List Key){y:V}{u:Value}(ry:RelV y u) :
  KT H (aE.map λkv=>if kv.1=k then (kv.1,y) else kv) (xs.map (putAt k u)):=by
 induction r with
 | nil=>exact .nil
 | @cons p q ps qs h t ih=>
  rw [za,za];refine .cons ?_ ih;obtain ⟨h1,h2,h3⟩:=h;unfold putAt;by_cases e:p.1=k
  ·rw [if_pos e,if_pos (h1.symm.trans e)];exact ⟨h1,h2,ry⟩
  ·rw [if_neg e,if_neg (λz=>e (h1.trans z))];exact ⟨h1,h2,h3⟩
theorem KT.put {H:Hp}{aE:List (List Key×V)}{xs:List (List Key×Addr×Value)}(r:KT H aE xs)(k:List Key){b:Addr}{y:V}{u:Value}(hb:H b=some (.tup (k.map kV)))(ry:RelV y u) :
  KT H (putK aE k y) (storedH xs k b u):=by
 have e:(aE.any λkv=>decide (kv.1=k))=(atKey xs k).isSome:=by
  rw [fu,(r.val k).uC,Option.isSome_map]
 unfold putK storedH;rw [e];by_cases q:(atKey xs k).isSome=true
 ·rw [if_pos q,if_pos q];exact r.NB k ry
 ·rw [if_neg q,if_neg q];exact Paired.snoc r ⟨rfl,hb,ry⟩
theorem KT.keeps {H H':Hp}{aE:List (List Key×V)}{xs:List (List Key×Addr×Value)}(r:KT H aE xs)(ht:∀ b ys,H b=some (.tup ys)->H' b=some (.tup ys)):KT H' aE xs:=
 Paired.NU r λ_ _ z=>⟨z.1,ht _ _ z.2.1,z.2.2⟩
section
variable {P:Program}{w:World}{H:Hp}{h:Heap}{a:Addr}
theorem My {u:HO}(ok:fP P w H h)(e:Rd H a u):aY P w H h a u:=e.ok ok
theorem Kn {aE:List (Key×V)}(ok:fP P w H h)(e:Rd H a (.dK aE)):aE.length<=sizeLine/\(a == sysModules)=false/\∃ vs,KV aE vs/\h.DictOf (bH P w) a vs:=
 show aY P w H h a (.dK aE) from My ok e
theorem Rn {aE:List (Key×V)}(ok:fP P w H h)(e:H a=some (.dK aE)):aE.length<=sizeLine/\(a == sysModules)=false/\∃ vs,KV aE vs/\h.DictOf (bH P w) a vs:=Kn ok (.inl e)
theorem qS {ks:List Key}(ok:fP P w H h)(e:H a=some (.tup (ks.map kV))):(tupleKind (bH P w)).is h ks a:=by obtain ⟨_,au,r,o,h1,h2,n,h3⟩:=(show aY P w H h a (.tup (ks.map kV)) from ok a _ e);exact ⟨o,au.toArray,n,h1,h2,h3,by simpa using l6 r⟩
theorem Km {aE:List (List Key×V)}(ok:fP P w H h)(e:Rd H a (.dT aE)):aE.length<=sizeLine/\(a == sysModules)=false /\
  ∃ xs,KT H aE xs/\h.DictOfH (tupleKind (bH P w)) a xs:=by
 obtain ⟨z,y,xs,r,o,es,ep,h1,h2,h3,h4,h5⟩:=(show aY P w H h a (.dT aE) from My ok e);refine ⟨z,y,xs,r,o,es,ep,h1,h2,h3,h4,λx hx=>?_,h5⟩;have all:∀ {l:List (List Key×V)}{m:List (List Key×Addr×Value)},KT H l m->∀ x∈m,(tupleKind (bH P w)).is h x.1 x.2.1:=by
  intro l m q;induction q with
  | nil=>intro x hx;exact nomatch hx
  | @cons p q ps qs hq t ih=>
   intro x hx;rcases zP.mp hx with e | hx
   ·subst e;exact qS ok (by rw [<-hq.1];exact hq.2.1)
   ·exact ih x hx
 exact all r x hx
theorem Rm {aE:List (List Key×V)}(ok:fP P w H h)(e:H a=some (.dT aE)):aE.length<=sizeLine/\(a == sysModules)=false /\
  ∃ xs,KT H aE xs/\h.DictOfH (tupleKind (bH P w)) a xs:=Km ok (.inl e)
end
def rO (H:Hp)(a:Addr)(y:V)(r:Option V):Prop:=
 (∃ aE k,Rd H a (.dK aE)/\y=kV k/\r=cS aE k)\/∃ aE k b,Rd H a (.dT aE)/\y=.ref b/\H b=some (.tup (k.map kV))/\r=cS aE k
def KR (H:Hp)(a:Addr)(y v:V)(H':Hp):Prop:=
 (∃ aE k,H a=some (.dK aE)/\y=kV k/\aE.length < sizeLine/\H'=upd H a (.dK (putK aE k v))) \/
 ∃ aE k b,H a=some (.dT aE)/\y=.ref b/\H b=some (.tup (k.map kV))/\aE.length < sizeLine/\H'=upd H a (.dT (putK aE k v))
theorem rO.k {H:Hp}{a:Addr}{aE:List (Key×V)}{k:Key}(e:H a=some (.dK aE)):rO H a (kV k) (cS aE k):=.inl ⟨aE,k,.inl e,rfl,rfl⟩
theorem KR.k {H:Hp}{a:Addr}{aE:List (Key×V)}{k:Key}{v:V}(e:H a=some (.dK aE))(hl:aE.length < sizeLine):KR H a (kV k) v (upd H a (.dK (putK aE k v))):=.inl ⟨aE,k,e,rfl,hl,rfl⟩
section
variable {X:Cx}{aa:List (Addr×Obj)}{σ:St}{H:Hp}{s:Shared}{a:Addr}{y v:V}{u r:Value}{o:Option V}{A:Around}{E:Value->Shared->Prop}
theorem Inv.big (I:Inv X aa σ H s):sysModules < s.heap.objs.size:=by have h:mainGlobals < s.heap.objs.size:=(I.mod.glob.keeps I.bk).lt;exact Nat.lt_trans (by decide) h
theorem uP {Q:Value->Shared->Prop}(hu:A.units + 1 < cLine)(I:Inv X aa σ H s)(g:rO H a y (some v))(ry:RelV y u)(h:∀ w' s',Inv X aa σ H s'->RelV v w'->Q w' s') :
  wpAny (model X.prog X.w) A (getItem (.ref a) u) Q E s:=by
 rcases g with ⟨aE,k,e,ey,l⟩ | ⟨aE,k,b,e,ey,eb,l⟩
 ·subst ey;obtain ⟨z,hd,vs,rel,dd⟩:=Kn I.br e;obtain ⟨w',hw,t8⟩:=kO.some_of (v:=v) (o:=valueAt vs k) (by rw [l];exact rel.val k);exact wpAny_getItem_of (JS ry) dd.mapOf hw (h w' _ (I.tok _) t8)
 ·subst ey;cases (show u=Value.ref b from ry);obtain ⟨z,hd,xs,rel,dd⟩:=Km I.br e;obtain ⟨w',hw,t8⟩:=kO.some_of (v:=v) (o:=(atKey xs k).map (·.2)) (by rw [l];exact rel.val k);obtain ⟨p,hp,Od⟩:=Option.map_eq_some_iff.mp hw;refine wpAny_getItem_heap (tupleKind_room_in1 hu) (qS I.br eb) dd hp ?_;rw [Od];exact h w' _ (I.tok _) t8
theorem sO {h':Heap}{t':Nat}{ob:HO}(I:Inv X aa σ H s)(mu:RC (H a))(hs:Heap.SameBut a s.heap h')(he:∃ q,h'.get? a=some q)(new:aY X.prog X.w (upd H a ob) h' a ob) :
  Inv X aa σ (upd H a ob) { s with heap:=h',toks:=t' }:=
 I.write (x:=a) (e:=a) mu (.inl rfl) (λb q hb z=>(hs.2 b hb).trans z) he new
theorem OS {P:Program}{w:World}{H':Hp}{h':Heap}{aE:List (Key×V)}{vs:List (Key×Value)}(z:aE.length<=sizeLine)(hd:(a == sysModules)=false)(rel:KV aE vs)(dd:h'.DictOf (bH P w) a vs) :
  aY P w H' h' a (.dK aE):=⟨z,hd,vs,rel,dd⟩
theorem uO {H':Hp}{Q:Unit->Shared->Prop}(hu:A.units + 1 < cLine)(I:Inv X aa σ H s)(g:KR H a y v H')(ry:RelV y u)(rv:RelV v r)(h:∀ s',Inv X aa σ H' s'->Q () s') :
  wpAny (model X.prog X.w) A (setItem (.ref a) u r) Q E s:=by
 rcases g with ⟨aE,k,e,ey,l,eH⟩ | ⟨aE,k,b,e,ey,eb,l,eH⟩
 ·subst ey eH;obtain ⟨z,hd,vs,rel,dd⟩:=Rn I.br e;have hz:vs.length<=sizeLine:=by rw [<-rel.length];exact z
  have hl:(putK aE k v).length<=sizeLine:=by have:=fG aE k v;omega
  refine wpAny_setItem_pairs (hsz:=hz) (JS ry) dd λh' Su hs=>h _ ?_;have he:∃ q,h'.get? a=some q:=let ⟨q,_,_,hq,_⟩:=Su;⟨q,hq⟩;exact sO I (by rw [e];exact True.intro) hs he (OS hl hd (rel.put k rv) Su)
 ·subst ey eH;cases (show u=Value.ref b from ry);obtain ⟨z,hd,xs,rel,dd⟩:=Rm I.br e;have hz:xs.length<=sizeLine:=by rw [<-Paired.length rel];exact z
  have hl:(putK aE k v).length<=sizeLine:=by have:=fG aE k v;omega
  refine wpAny_setItem_heap (hsz:=hz) (tupleKind_room_in1 hu) (qS I.br eb) dd λh' Su hs=>h _ ?_;obtain ⟨q,es,ep,hq,h2,h3,h4,_,h5⟩:=Su;refine sO I (by rw [e];exact True.intro) hs ⟨q,hq⟩ ⟨hl,hd,_,(rel.put k eb rv).keeps λc ys ec=>?_,q,es,ep,hq,h2,h3,h4,h5⟩;rw [xR (bY ec e (λz=>nomatch z))];exact ec
end
section
variable {X:Cx}{aa:List (Addr×Obj)}{σ:St}{H:Hp}{s:Shared}{a:Addr}{aE:List (Key×V)}{k:Key}{u:Value}{A:Around}{E:Value->Shared->Prop}
end
def RB (i:Expr):Prop:=∀ ov iv,subscripted i false ov iv=operate [ov,iv] (getItem ov iv)
theorem Le {prog:Program}{w:World}{A:Around}{E:Value->Shared->Prop}{s:Shared}{env:Env}{value slice:Expr}{pos:Pos}{T id:String}{Q:Value->Shared->Prop}
  (hl:typeLookup (.type T) "__getitem__" = pure (some (.builtin id))) (hs:RB slice)
  (h:wpAny (model prog w) A (eval value env) (λo aN=>wpAny (model prog w) A (eval slice env) (λi jL=>jL.TypeIs o T/\wpAny (model prog w) A (getItem o i) Q E jL) E aN) E s) :
  wpAny (model prog w) A (eval (.Subscript value slice pos) env) Q E s:=by
 refine Subscript_ (wpAny_mono h (λo aN eZ=>wpAny_mono eZ (λi jL JW=>?_) λ_ _ x=>x) λ_ _ x=>x);obtain ⟨hT,JW⟩:=JW;unfold subscriptTail;refine wpAny_bind ?_;rw [getitemInPython_of_ne hT.not_modules];refine wpAny_bind (wpAny_specialOf hT hl ?_);have fin:wpAny (model prog w) A (subscripted slice false o i) (λr tN=>wpAny (model prog w) A (letTemporaryGo value o r >>= λ_=>pure r) Q E tN) E jL:=by
  rw [hs o i];exact wpAny_operating (wpAny_mono JW (λr tN LU=>wpAny_bind (wpAny_letTemporaryGo (wpAny_pure LU))) λ_ _ x=>x)
 first
  | exact wpAny_pure (wpAny_bind fin)
  | exact wpAny_bind (wpAny_pure (wpAny_bind fin))
  | exact wpAny_bind fin
theorem pK {X:Cx}{aa:List (Addr×Obj)}{σ:St}{H:Hp}{s:Shared}{a:Addr}{y:V}{o:Option V}(I:Inv X aa σ H s)(g:rO H a y o):s.TypeIs (.ref a) "dict" := by
 rcases g with ⟨aE,k,e,_,_⟩ | ⟨aE,k,b,e,_,_,_⟩
 ·obtain ⟨_,_,vs,_,dd⟩:=Kn I.br e;exact dd.typeIs
 ·obtain ⟨_,_,xs,_,dd⟩:=Km I.br e;exact dd.typeIs
def PX (td ty:TE):TE:=fun σ H Q=>td σ H λx H1=>ty σ H1 λy H2=>∃ a v,x=.ref a/\rO H2 a y (some v)/\Q v H2
def Qc (td ty tv:TE):TS:=λD σ H=>tv σ H λv H1=>td σ H1 λx H2=>ty σ H2 λy H3=>∃ a H4,x=.ref a/\KR H3 a y v H4/\D.nx σ H4
section
variable {X:Cx}{o i e value:Expr}{pos pos' Nb:Pos}{td ty tv:TE}
theorem LB (hu:X.A.units + 1 < cLine)(ho:PE X o td)(hi:PE X i ty)(hs:RB i):PE X (.Subscript o i pos) (PX td ty):=by intro aa s σ H Q I h;refine Le PySem.F.slot_dict_getitem.lookup hs (aX (ho aa s σ H _ I h) λu s1 SR=>?_);obtain ⟨x,H1,I1,rx,q1⟩:=SR;refine aX (hi aa s1 σ H1 _ I1 q1) λiv s2 SQ=>?_;obtain ⟨y,H2,I2,ry,a,v,ex,g,q2⟩:=SQ;subst ex;obtain rfl:u=Value.ref a:=rx;exact ⟨pK I2 g,uP hu I2 g ry λw' s3 I3 t8=>⟨v,H2,I3,t8,q2⟩⟩
theorem Lw (hu:X.A.units + 1 < cLine)(ho:PE X o td)(hi:PE X i ty)(hv:PE X value tv)(hs:swapsWith value (some (.Subscript o i pos')) pos.line X.env=pure false) :
  PS X (.Assign [.Subscript o i pos'] value pos) (Qc td ty tv):=by
 intro aa s σ H D I h;refine wpAny_Assign_Subscript (aX (hv aa s σ H _ I h) λr s1 SO=>?_) hs;obtain ⟨v,H1,I1,rv,q1⟩:=SO;refine aX (ho aa s1 σ H1 _ I1 q1) λu s2 SN=>?_;obtain ⟨x,H2,I2,rx,q2⟩:=SN;refine aX (hi aa s2 σ H2 _ I2 q2) λiv s3 SM=>?_;obtain ⟨y,H3,I3,ry,a,H4,ex,g,q3⟩:=SM;subst ex;obtain rfl:u=Value.ref a:=rx;exact uO hu I3 g ry rv λs4 I4=>⟨σ,H4,I4,q3⟩
end
theorem Ko {P:Program}{w:World}{H:Hp}(h:Heap)(hb:sysModules < h.objs.size):aY P w H (h.push { cls:=.type "dict", data:=.dict #[] }) h.objs.size (.dK []):=
 ⟨zY _,beq_eq_false_iff_ne.mpr (Ne.symm (zU hb)),[],.nil,Heap.DictOf.new h⟩
def Nh:TE:=λ_ H Q=>∀ p,H p=none->Q (.ref p) (upd H p (.dK []))
section
variable {X:Cx}{pos:Pos}
theorem Jv:PE X (.Dict [] [] pos) Nh:=λaa s σ H Q I h=>
 wpAny_Dict_empty ⟨.ref s.heap.objs.size,_,I.laid (a:=s.heap.objs.size) (o:=.dK []) (t':=s.toks) (λ_ _ q=>Heap.get?_push_of_some _ q) (zB _) (Ko s.heap I.big),rfl,h _ (I.br.fresh (zB _))⟩
end
section
variable {X:Cx}{aa:List (Addr×Obj)}{σ:St}{H:Hp}{s:Shared}{a:Addr}{y d:V}{u r:Value}{o:Option V}{A:Around}{E:Value->Shared->Prop}
end
section
variable {X:Cx}{o e f:Expr}{apos lE:Pos}{td ty tx:TE}
end
section
variable {X:Cx}{aa:List (Addr×Obj)}{σ:St}{H:Hp}{s:Shared}{a:Addr}{aE:List (Key×V)}{A:Around}{E:Value->Shared->Prop}
end
section
variable {X:Cx}{aa:List (Addr×Obj)}{σ:St}{H:Hp}{s:Shared}{a:Addr}{y:V}{u:Value}{A:Around}{E:Value->Shared->Prop}
end
end L2
namespace HT
open PySem PyProof.Rows
section
open PySem.SeqAt
open PySem.AutoSeq1 (wpAny_loadPart')
open PySem.MeetsSeq PySem.MeetsSeq2 PySem.MeetsSeq3
end
section
variable {prog:Program}{w:World}{A:Around}{E:Value->Shared->Prop}{s:Shared}
def bW (n d:Nat):Option Int->Nat
 | none=>d
 | some v=>if v < 0 then (v + (n:Int)).toNat else min v.toNat n
theorem rZ (n d k:Nat):bW n d (some (k:Int))=min k n:=by show (if (k:Int) < 0 then ((k:Int) + (n:Int)).toNat else min (k:Int).toNat n)=min k n;rw [if_neg (by omega),yG]
theorem Nx (n d:Nat)(hd:d<=n)(o:Option Int):bW n d o<=n:=by
 cases o with
 | none=>exact hd
 | some v=>
  show (if v < 0 then (v + (n:Int)).toNat else min v.toNat n)<=n;by_cases hv:v < 0
  ·rw [if_pos hv];omega
  ·rw [if_neg hv];exact Nat.min_le_right _ _
theorem sR (v:Int)(n d:Nat):(if v < 0 then max (v + (n:Int)) 0 else min v (n:Int))=((bW n d (some v):Nat):Int):=by
 show (if v < 0 then max (v + (n:Int)) 0 else min v (n:Int))=(((if v < 0 then (v + (n:Int)).toNat else min v.toNat n):Nat):Int);by_cases hv:v < 0
 ·simp only [if_pos hv];omega
 ·simp only [if_neg hv];omega
theorem rL (lo hi:Option Int)(n:Nat):Builtin.Slice.sliceAdjust lo hi 1 (n:Int)=(((bW n 0 lo:Nat):Int),((bW n n hi:Nat):Int)):=by
 have h1:¬ ((1:Int) < 0):=by omega
 unfold Builtin.Slice.sliceAdjust;simp only [h1,if_false];refine Prod.ext ?_ ?_
 ·cases lo with
  | none=>rfl
  | some v=>exact sR v n 0
 ·cases hi with
  | none=>rfl
  | some v=>exact sR v n n
theorem qI (i j:Nat):Builtin.Slice.slicePlaces (i:Int) (j:Int) 1=j - i:=by
 unfold Builtin.Slice.slicePlaces;have h1:(1:Int) > 0:=by omega
 simp only [h1,if_true,Int.ediv_one];split <;> omega
theorem jO {v:Value}{o:Option Int}{Q:Option Int->Shared->Prop}(p:IsPart v o)(h:Q o s):wpAny (model prog w) A (Builtin.Slice.slicePartIndex v) Q E s:=by
 cases p with
 | none=>exact slicePart_none h
 | int i t=>exact slicePart_int h
theorem iQ {sl:Addr}{vl vu:Value}{lo hi:Option Int}{n:Nat}{Q:Int×Int×Nat->Shared->Prop}(hs:s.heap.IsSliceOf sl vl vu .none)(pl:IsPart vl lo)(pu:IsPart vu hi)
  (h:Q (((bW n 0 lo:Nat):Int),1,bW n n hi - bW n 0 lo) s):wpAny (model prog w) A (Builtin.Slice.sliceApplied (.ref sl) (pure (n:Int))) Q E s:=by
 obtain ⟨os,QT,Xp,Sh⟩:=id hs;unfold Builtin.Slice.sliceApplied Builtin.Slice.sliceFields;refine wpAny_bind (wpAny_bind (wpAny_field QT Sh (x:=vl) rfl (wpAny_bind (wpAny_field QT Sh (x:=vu) rfl (wpAny_bind (wpAny_field QT Sh (x:=.none) rfl (wpAny_pure ?_)))))));refine wpAny_bind (slicePart_none ?_);show wpAny _ _ (if ((1:Int) == 0)=true then _ else _) _ _ s;rw [if_neg (by decide)];refine wpAny_bind (jO pl (wpAny_bind (jO pu (wpAny_bind (wpAny_pure ?_)))));show wpAny _ _ (match Builtin.Slice.sliceAdjust lo hi 1 (n:Int) with | (lo,hi)=>pure (lo,(1:Int),Builtin.Slice.slicePlaces lo hi 1)) _ _ s;rw [rL lo hi n];show wpAny _ _ (pure (((bW n 0 lo:Nat):Int),(1:Int),Builtin.Slice.slicePlaces ((bW n 0 lo:Nat):Int) ((bW n n hi:Nat):Int) 1)) _ _ s;rw [qI];exact wpAny_pure h
theorem vY (xs:Array Value)(i k:Nat):((List.range k).filterMap λ(m:Nat)=>xs[((i:Int) + (m:Int) * 1).toNat]?).toArray=((xs.toList.drop i).take k).toArray:=by
 have e:(λ(m:Nat)=>xs[((i:Int) + (m:Int) * 1).toNat]?)=λm=>xs[i + m]?:=by
  funext m;have:((i:Int) + (m:Int) * 1).toNat=i + m:=by omega
  rw [this]
 rw [e];have:=pick_run xs i k;rw [List.filterMap_map] at this;have e2:((λx=>xs[x]?) ∘ λx=>i + x)=λm=>xs[i + m]?:=rfl;rw [e2] at this;rw [this]
theorem iu {t sl:Addr}{items:Array Value}{vl vu:Value}{lo hi:Option Int}{Q:Value->Shared->Prop}(ht:IsTup s.heap t items)(hs:s.heap.IsSliceOf sl vl vu .none)(pl:IsPart vl lo)(pu:IsPart vu hi)
  (hw:¬ (bW items.size 0 lo=0/\bW items.size items.size hi=items.size))
  (h:Q (.ref s.heap.objs.size) { s with heap:=s.heap.push { cls:=.type "tuple", data:=.seq ((items.toList.drop (bW items.size 0 lo)).take (bW items.size items.size hi - bW items.size 0 lo)).toArray } })
  (hsz:items.size<=sizeLine):wpAny (model prog w) A (getItem (.ref t) (.ref sl)) Q E s:=by
 have sA:sizeOk (.seq ((items.toList.drop (bW items.size 0 lo)).take (bW items.size items.size hi - bW items.size 0 lo)).toArray):=by
  show ((items.toList.drop (bW items.size 0 lo)).take (bW items.size items.size hi - bW items.size 0 lo)).toArray.size<=sizeLine;rw [zM,zk,zz,Array.length_toList];omega
 have hj:bW items.size items.size hi<=items.size:=Nx _ _ (zB _) hi;obtain ⟨os,QT,Xp,Sh⟩:=id hs;have Z1:s.TypeIs (.ref sl) "slice" := ⟨os,QT,Xp⟩;unfold getItem;try with_reducible refine wpAny_holding ?_
 first | refine wpAny_bind (wpAny_pure ?_) | skip
 refine wpAny_bind (wpAny_sequenceKey ht.typeIs (by decide) ?_);refine wpAny_bind (wpAny_callSpecial?_slot (name:=Str.ofString "__getitem__") ht.typeIs PyProof.Rows.slot_tuple_getitem
  (wpAny_call_entry PyProof.Rows.slot_tuple_getitem ht.typeIs entry_tuple_getitem ?_ (args_tuple_getitem _ _)))
 show wpAny _ _ (Builtin.Tuple.tupleItemsOf (.ref t) >>= _) _ _ s;refine wpAny_bind (tupleItemsOf_ ht ?_);refine wpAny_bind (wpAny_typeOf Z1 ?_);rw [if_pos (by decide)];refine wpAny_bind (iQ hs pl pu ?_);have ZF:¬ ((((bW items.size 0 lo:Nat):Int) == 0 && (1:Int) == 1 && (bW items.size items.size hi - bW items.size 0 lo) == items.size)=true):=by
  intro q;rw [zX,zX] at q;have q1:((bW items.size 0 lo:Nat):Int)=0:=eq_of_beq q.1.1;have q2:bW items.size items.size hi - bW items.size 0 lo=items.size:=eq_of_beq q.2;exact hw ⟨by omega,by omega⟩
 show wpAny _ _ (if (((bW items.size 0 lo:Nat):Int) == 0 && (1:Int) == 1 && (bW items.size items.size hi - bW items.size 0 lo) == items.size)=true then _ else _) _ _ s;rw [if_neg ZF,vY]
 first
  | exact wpAny_bind (m:=Builtin.Tuple.tupleExact _) (wpAny_newObj_type (wpAny_pure ⟨_,rfl,wpAny_pure h⟩) sA)
  | exact wpAny_bind (m:=Builtin.Tuple.tupleExact _) (wpAny_newObj_type (wpAny_bind (wpAny_pure (wpAny_pure ⟨_,rfl,wpAny_pure h⟩))) sA)
  | exact wpAny_bind (wpAny_bind (m:=Builtin.Tuple.tupleExact _) (wpAny_newObj_type (wpAny_pure (wpAny_pure ⟨_,rfl,wpAny_pure h⟩)) sA))
  | exact wpAny_bind (wpAny_bind (m:=Builtin.Tuple.tupleExact _) (wpAny_newObj_type (wpAny_pure ⟨_,rfl,wpAny_pure h⟩) sA))
end
end HT
namespace L2
open PySem PySem.Spec PyProof.Rows
abbrev TO:=St->Hp->(Option Int->Hp->Prop)->Prop
def PO (X:Cx)(e:Option Expr)(t:TO):Prop:=
 ∀ (aa:List (Addr×Obj)) (s:Shared) (σ:St) (H:Hp) (Q:Option Int->Hp->Prop),Inv X aa σ H s->t σ H Q ->
  wpAny (model X.prog X.w) X.A (evalPart e X.env) (λu s'=>∃ o H',Inv X aa σ H' s'/\IsPart u o/\Q o H') X.xe s
def gU:TO:=λ_ H Q=>Q none H
def lQ (t:TE):TO:=fun σ H Q=>t σ H λx H1=>∃ i,x=.int i/\Q (some i) H1
section
variable {X:Cx}{e:Expr}{te:TE}{lo hi:Option Expr}{tl th:TO} {pos p2:Pos}
theorem fT:PO X none gU:=by intro aa s σ H Q I h;rw [evalPart_none];exact wpAny_pure ⟨none,H,I,.none,h⟩
theorem d9 (h:PE X e te):PO X (some e) (lQ te):=by intro aa s σ H Q I hw;rw [evalPart_some];refine aX (h aa s σ H _ I hw) λu s1 SK=>?_;obtain ⟨x,H1,I1,r1,q1⟩:=SK;obtain ⟨i,rfl,q⟩:=q1;obtain ⟨t,rfl⟩:=r1;exact ⟨some i,H1,I1,.int i t,q⟩
def Rw (X:Cx)(r:V->Option Int->Option Int->Hp->VK->Prop):Prop:=
 ∀ (aa:List (Addr×Obj)) (s:Shared) (σ:St) (H:Hp) (x:V) (v vl vu:Value) (lo hi:Option Int) (sl:Addr) (Q:VK),Inv X aa σ H s->RelV x v->s.heap.IsSliceOf sl vl vu .none->IsPart vl lo->IsPart vu hi->r x lo hi H Q ->
  ∃ T id,typeLookup (.type T) "__getitem__" = pure (some (.builtin id))/\s.TypeIs v T/\wpAny (model X.prog X.w) X.A (getItem v (.ref sl)) (EP X aa σ Q) X.xe s
def PM (r:V->Option Int->Option Int->Hp->VK->Prop)(te:TE)(tl th:TO):TE:=fun σ H Q=>te σ H λx H1=>tl σ H1 λl H2=>th σ H2 λu H3=>r x l u H3 Q
theorem dM {r:V->Option Int->Option Int->Hp->VK->Prop}(hr:Rw X r)(he:PE X e te)(hl:PO X lo tl)(hu:PO X hi th):PE X (.Subscript e (.Slice lo hi none p2) pos) (PM r te tl th):=by intro aa s σ H Q I h;refine Subscript_ (aX (he aa s σ H _ I h) λv s1 SJ=>?_);obtain ⟨x,H1,I1,r1,q1⟩:=SJ;refine wpAny_Slice (aX (hl aa s1 σ H1 _ I1 q1) λvl s2 SI=>?_);obtain ⟨l,H2,I2,pl,q2⟩:=SI;refine aX (hu aa s2 σ H2 _ I2 q2) λvu s3 SH=>?_;obtain ⟨u,H3,I3,pu,q3⟩:=SH;rw [evalPart_none];refine wpAny_pure ?_;have I4:Inv X aa σ H3 { s3 with heap:=s3.heap.push { cls:=.type "slice", data:=.fields #[vl,vu,.none] } }:=I3.kept (t':=s3.toks) λb ob q=>Heap.get?_push_of_some _ q;obtain ⟨T,id,hT,ht,hg⟩:=hr aa { s3 with heap:=s3.heap.push { cls:=.type "slice", data:=.fields #[vl,vu,.none] } } σ H3 x v vl vu l u s3.heap.objs.size Q I4 r1 (Heap.IsSliceOf.new ..) pl pu q3;show wpAny (model X.prog X.w) X.A (subscriptTail e (.Slice lo hi none p2) v (.ref s3.heap.objs.size)) (EP X aa σ Q) X.xe { s3 with heap:=s3.heap.push { cls:=.type "slice", data:=.fields #[vl,vu,.none] } };exact tail_any (ops:=[.ref s3.heap.objs.size,v]) ht hT hg (by with_unfolding_all rfl)
def jx (xs:List V)(lo hi:Option Int):List V:=(xs.drop (HT.bW xs.length 0 lo)).take (HT.bW xs.length xs.length hi - HT.bW xs.length 0 lo)
theorem jj (xs:List V)(lo hi:Option Int):(jx xs lo hi).length<=xs.length:=by unfold jx;rw [zk,zz];omega
def Qe (K:PySem.W.Frag):V->Option Int->Option Int->Hp->VK->Prop:=λx lo hi H Q=>∃ a xs,x=.ref a/\bC K H a xs /\
 ¬ (HT.bW xs.length 0 lo=0/\HT.bW xs.length xs.length hi=xs.length)/\∀ p,H p=none->Q (.ref p) (upd H p (.tup (jx xs lo hi)))
theorem Nv:Rw X (Qe X.K):=by
 intro aa s σ H x v vl vu lo hi sl Q I rx hs pl pu h;obtain ⟨a,xs,rfl,hx,hw,q⟩:=h;cases rx;obtain ⟨au,r,ht,hz⟩:=I.tuple hx;have hlen:au.toArray.size=xs.length:=by rw [zM];exact r.length.symm
 refine ⟨"tuple", _,PyProof.Rows.slot_tuple_getitem.lookup,ht.typeIs,?_⟩;refine HT.iu ht hs pl pu (by rw [hlen];exact hw) ?_ (by rw [hlen];exact hz);rw [hlen];refine ⟨.ref s.heap.objs.size,_,I.laid (t':=s.toks) (o:=.tup (jx xs lo hi)) (λb ob q=>Heap.get?_push_of_some _ q) (zB _) ?_,rfl,q _ (I.br.fresh (zB _))⟩;exact ⟨⟨zu (jj xs lo hi) hz,j5⟩,_,(r.drop (HT.bW xs.length 0 lo)).take (HT.bW xs.length xs.length hi - HT.bW xs.length 0 lo),IsTup.new _ _⟩
end
def JT (n:Nat)(i:Int):Option Nat:=if 0<=i then (if i < n then some i.toNat else none) else if -(n:Int)<=i then some (i + n).toNat else none
def dS {α:Type}(xs:List α)(i:Int):Option α:=(JT xs.length i).bind λj=>xs[j]?
theorem m9 {n:Nat}{i:Int}{j:Nat}(h:JT n i=some j):seqIndex? i n=some j/\j < n/\-(n:Int)<=i/\i < n:=by
 unfold JT at h;by_cases h0:0<=i
 ·rw [if_pos h0] at h;by_cases h1:i < n
  ·rw [if_pos h1] at h;have e:i.toNat=j:=Option.some.inj h;exact ⟨by rw [seqIndex_of h0 h1,e],by omega,by omega,h1⟩
  ·rw [if_neg h1] at h;cases h
 ·rw [if_neg h0] at h;by_cases h1:-(n:Int)<=i
  ·rw [if_pos h1] at h;have e:(i + n).toNat=j:=Option.some.inj h;exact ⟨by rw [seqIndex_neg (by omega) h1,e],by omega,h1,by omega⟩
  ·rw [if_neg h1] at h;cases h
theorem sY {α:Type}{xs:List α}{i:Int}{v:α}(h:dS xs i=some v):∃ j,seqIndex? i xs.length=some j/\xs[j]?=some v/\j < xs.length/\-(xs.length:Int)<=i/\i < xs.length:=by
 unfold dS at h;cases e:JT xs.length i with
 | none=>rw [e] at h;cases h
 | some j=>
  rw [e] at h;obtain ⟨h1,h2,h3,h4⟩:=m9 e;exact ⟨j,h1,h,h2,h3,h4⟩
theorem xo {α:Type}{xs:List α}{j:Nat}{v:α}(h:xs[j]?=some v):dS xs (j:Int)=some v:=by
 have hj:j < xs.length:=(zC.mp h).1;have e:JT xs.length (j:Int)=some j:=by
  unfold JT;rw [if_pos (by omega),if_pos (by omega)];simp
 unfold dS;rw [e];exact h
theorem KG {α:Type}(xs:List α)(v:α):dS (xs++[v]) (-1)=some v:=by
 have hl:(xs++[v]).length=xs.length + 1:=by simp
 have e:JT (xs++[v]).length (-1)=some xs.length:=by
  unfold JT;rw [hl,if_neg (by decide),if_pos (by omega)];congr 1;omega
 unfold dS;rw [e];show (xs++[v])[xs.length]?=some v;simp
def Mm (b:Expr):Prop:=∀ o i,subscripted b false o i=operate [o,i] (getItem o i)
def RE (X:Cx)(r:R2):Prop:=
 ∀ (value slice:Expr) (aa:List (Addr×Obj)) (s:Shared) (σ:St) (H:Hp) (x y:V) (v u:Value) (Q:VK),Inv X aa σ H s->RelV x v->RelV y u->r x y H Q ->
  subscripted slice false v u=operate [v,u] (getItem v u)->wpAny (model X.prog X.w) X.A (subscriptTail value slice v u) (EP X aa σ Q) X.xe s
def Wa (X:Cx)(id:String)(r:V->List V->Hp->VK->Prop):Prop:=
 ∀ (aa:List (Addr×Obj)) (s:Shared) (σ:St) (H:Hp) (x:V) (xs:List V) (v:Value) (us:List Value) (Q:VK),Inv X aa σ H s->RelV x v->Vals xs us->r x xs H Q ->
  wpAny (model X.prog X.w) X.A (call (.builtin id) (v::us)) (EP X aa σ Q) X.xe s
section
variable {X:Cx}{a b:Expr}{ta tb:TE}{pos:Pos}
theorem xY {r:R2}(hr:RE X r)(ha:PE X a ta)(hb:PE X b tb)(hs:Mm b):PE X (.Subscript a b pos) (Ld r ta tb):=by intro aa s σ H Q I h;exact Subscript_ (OX ha hb I h λv u s2 x y H2 I2 rx ry q=>hr a b aa s2 σ H2 x y v u Q I2 rx ry q (hs _ _))
def qG (K:PySem.W.Frag):R2:=λx y H Q=>∃ p xs i v,x=.ref p/\y=.int i/\aJ K H p xs/\dS xs i=some v/\Q v H
def uc (K:PySem.W.Frag):R2:=λx y H Q=>∃ p xs i v,x=.ref p/\y=.int i/\bC K H p xs/\dS xs i=some v/\Q v H
theorem LP:RE X (qG X.K):=by
 intro value slice aa s σ H x y v u Q I rx ry h hs;obtain ⟨p,xs,i,z,rfl,rfl,hq,he,q⟩:=h;cases rx;obtain ⟨t,rfl⟩:=ry;obtain ⟨au,r,pl,hz⟩:=I.list hq;obtain ⟨j,h1,h2,h3,h4,h5⟩:=sY he;obtain ⟨w,ew,t8⟩:=r.get h2;have hl:=r.length;have hn:=iW;have fin:EP X aa σ Q w s:=⟨z,H,I,t8,q⟩;by_cases h0:0<=i
 ·have hj:i.toNat=j:=by
   rw [seqIndex_of h0 h5] at h1;exact Option.some.inj h1
  exact item_listR pl.isList h0 (by omega) (by rw [hj];simpa using ew) fin hs
 ·have hj:(i + (au.toArray.size:Int)).toNat=j:=by
   rw [seqIndex_neg (by omega) h4] at h1;rw [zM,<- hl];exact Option.some.inj h1
  exact subscriptTail_builtinR (x:=w) pl.isList.typeIs slot_list_getitem.lookup
   (wpAny_getItem_list_neg (Q:=λr s'=>r=w/\EP X aa σ Q r s') pl.isList (by omega) (by rw [zM] <;> omega) (by omega) (by rw [hj];simpa using ew) ⟨rfl,fin⟩) hs
theorem N6:RE X (uc X.K):=by
 intro value slice aa s σ H x y v u Q I rx ry h hs;obtain ⟨p,xs,i,z,rfl,rfl,hq,he,q⟩:=h;cases rx;obtain ⟨t,rfl⟩:=ry;obtain ⟨au,r,pl,hz⟩:=I.tuple hq;obtain ⟨j,h1,h2,h3,h4,h5⟩:=sY he;obtain ⟨w,ew,t8⟩:=r.get h2;have hl:=r.length;have hn:=iW;have fin:EP X aa σ Q w s:=⟨z,H,I,t8,q⟩;exact subscriptTail_builtinR (x:=w) pl.typeIs slot_tuple_getitem.lookup
  (getItem_tuple (j:=j) (Q:=λr s'=>r=w/\EP X aa σ Q r s') pl (by omega) (by omega) (by rw [zM,<- hl];exact h1) (by simpa using ew) ⟨rfl,fin⟩) hs
theorem qP (au:List Value)(n j:Nat)(u:Value):Obj.mapSeq (·.setIfInBounds j u) { cls:=.type "list", data:=.seq au.toArray n }={ cls:=.type "list", data:=.seq (au.set j u).toArray n }:=by simp [Obj.mapSeq]
theorem Inv.lst {aa:List (Addr×Obj)}{σ:St}{H:Hp}{s:Shared}{p:Addr}{xs:List V}(I:Inv X aa σ H s)(h:H p=some (.lst xs)) :
  ∃ (au:List Value) (n:Nat),Vals xs au/\s.heap.get? p=some { cls:=.type "list", data:=.seq au.toArray n }/\xs.length<=sizeLine:=by
 obtain ⟨z,au,n,r,e⟩:=I.br p _ h;exact ⟨au,n,r,e,z⟩
theorem Inv.NV {aa:List (Addr×Obj)}{σ:St}{H:Hp}{s:Shared}{p:Addr}{xs ys:List V}{au its':List Value}{n n':Nat}{f:Obj->Obj}(I:Inv X aa σ H s)(h:H p=some (.lst xs))
  (ho:s.heap.get? p=some { cls:=.type "list", data:=.seq au.toArray n }) (hf:f { cls:=.type "list", data:=.seq au.toArray n }={ cls:=.type "list", data:=.seq its'.toArray n' }) (r:Vals ys its') (hz:ys.length<=sizeLine) (t:Nat) :
  Inv X aa σ (upd H p (.lst ys)) { s with heap:=s.heap.update p f,toks:=t }:=by
 have e:(s.heap.update p f).get? p=some { cls:=.type "list", data:=.seq its'.toArray n' }:=by
  rw [Heap.get?_update_self f ho (by rw [hf] <;> rfl),hf]
 refine I.write (x:=p) (e:=p) (by rw [h];trivial) (.inl rfl) (λb u hb q=>(Heap.get?_update_other _ _ (Ne.symm hb)).trans q) ⟨_,e⟩ ?_;exact ⟨hz,its',n',r,e⟩
def oG:V->V->V->Hp->(Hp->Prop)->Prop:=λo i v H Q=>∃ p xs k j,o=.ref p/\i=.int k/\H p=some (.lst xs)/\JT xs.length k=some j/\Q (upd H p (.lst (xs.set j v)))
theorem set_list:O4 X oG:=by
 intro aa s σ H o i v ov iv u Q I ro ri rv h;obtain ⟨p,xs,k,j,rfl,rfl,hp,hj,q⟩:=h;cases ro;obtain ⟨t,rfl⟩:=ri;obtain ⟨au,n,r,ho,hz⟩:=I.lst hp;obtain ⟨h1,h2,h3,h4⟩:=m9 hj;have hl:=r.length;have hn:=iW;have I':Inv X aa σ (upd H p (.lst (xs.set j v))) { s with heap:=s.heap.update p (Obj.mapSeq (·.setIfInBounds j u)) }:=
  I.NV hp ho (qP au n j u) (r.set rv j) (by rw [List.length_set];exact hz) s.toks
 by_cases h0:0<=k
 ·have hk:k.toNat=j:=by
   rw [seqIndex_of h0 h4] at h1;exact Option.some.inj h1
  exact PySem.W.ki_setAt ho h0 (by omega) (by rw [zM,<- hl];exact h4) (by rw [hk];exact ⟨_,I',q⟩)
 ·have hk:(k + (au.toArray.size:Int)).toNat=j:=by
   rw [seqIndex_neg (by omega) h3] at h1;rw [zM,<- hl];exact Option.some.inj h1
  exact PySem.W.ki_setBack ho (by omega) (by rw [zM,<- hl];exact h3) (by omega) (by rw [hk];exact ⟨_,I',q⟩)
theorem mT (lo hi:Option Int)(n:Nat):(sliceBounds lo hi none n).1=((HT.bW n 0 lo:Nat):Int)/\(sliceBounds lo hi none n).2.1=((HT.bW n n hi:Nat):Int)/\(sliceBounds lo hi none n).2.2=1:=by
 refine ⟨?_,?_,rfl⟩
 ·cases lo with
  | none=>simp [sliceBounds,HT.bW]
  | some i=>
   simp only [sliceBounds,HT.bW,Option.getD_none,show (1:Int) > 0 by decide,if_true];by_cases h:i < 0
   ·simp only [h,if_true] <;> omega
   ·simp only [h,if_false] <;> omega
 ·cases hi with
  | none=>simp [sliceBounds,HT.bW]
  | some i=>
   simp only [sliceBounds,HT.bW,Option.getD_none,show (1:Int) > 0 by decide,if_true];by_cases h:i < 0
   ·simp only [h,if_true] <;> omega
   ·simp only [h,if_false] <;> omega
theorem kY (au:List Value)(lo hi:Option Int):slicePick au.toArray lo hi none=((au.drop (HT.bW au.length 0 lo)).take (HT.bW au.length au.length hi - HT.bW au.length 0 lo)).toArray:=by obtain ⟨h1,h2,h3⟩:=mT lo hi au.toArray.size;unfold slicePick;rw [h1,h2,h3];simp only [sliceRange_one,pick_run,zM] <;> rfl
def Qg (K:PySem.W.Frag):V->Option Int->Option Int->Hp->VK->Prop:=λx lo hi H Q=>∃ a xs,x=.ref a/\aJ K H a xs/\∀ p,H p=none->Q (.ref p) (upd H p (.lst (jx xs lo hi)))
theorem Lo:Rw X (Qg X.K):=by intro aa s σ H x v vl vu lo hi sl Q I rx hs pl pu h;obtain ⟨a,xs,rfl,hx,q⟩:=h;cases rx;obtain ⟨au,r,ht,hz⟩:=I.list hx;have hlen:=r.length;refine ⟨"list", _,slot_list_getitem.lookup,ht.isList.typeIs,?_⟩;refine wpAny_getItem_list_slice ht.isList hs pl pu .none (by simp) ?_ (by rw [zM] <;> omega);rw [kY,<- hlen];refine ⟨.ref s.heap.objs.size,_,I.laid (t':=s.toks) (o:=.lst (jx xs lo hi)) (λb ob q=>Heap.get?_push_of_some _ q) (zB _) ?_,rfl,q _ (I.br.fresh (zB _))⟩;exact ⟨zu (jj xs lo hi) hz,_,0,(r.drop (HT.bW xs.length 0 lo)).take (HT.bW xs.length xs.length hi - HT.bW xs.length 0 lo),Heap.get?_push_size _ rfl⟩
def bT:V->Bool
 | .bG=>true
 | .bl _=>true
 | .int _=>true
 | .str _=>true
 | _=>false
def qa:V->V->Bool
 | .bG,.bG=>true
 | .bl a,.bl b=>a == b
 | .bl a,.int b=>(if a then 1 else 0) == b
 | .int a,.bl b=>a == (if b then 1 else 0)
 | .int a,.int b=>a == b
 | .str a,.str b=>a == b
 | _,_=>false
theorem Kl {A:Around}{s:Shared}{y x:V}{u v:Value}(ry:RelV y u)(rx:RelV x v)(fy:bT y=true)(fx:bT x=true):SeqAt.EqAt A s u v (qa y x):=by
 cases y with
 | bG=>
  cases ry;cases x with
  | bG=>cases rx;exact SeqAt.EqAt.same _
  | bl b=>cases rx;exact SeqAt.EqAt.none_bool b
  | int b=>obtain ⟨t,rfl⟩:=rx;exact SeqAt.EqAt.none_int b t
  | str b=>obtain ⟨t,rfl⟩:=rx;exact SeqAt.EqAt.none_str b t
  | _=>exact absurd (show false=true from fx) zK
 | bl a=>
  cases ry;cases x with
  | bG=>cases rx;exact SeqAt.EqAt.bool_none a
  | bl b=>cases rx;exact SeqAt.EqAt.bool_bool a b
  | int b=>obtain ⟨t,rfl⟩:=rx;exact SeqAt.EqAt.bool_int a b t
  | str b=>obtain ⟨t,rfl⟩:=rx;exact SeqAt.EqAt.bool_str a b t
  | _=>exact absurd (show false=true from fx) zK
 | int a=>
  obtain ⟨t',rfl⟩:=ry;cases x with
  | bG=>cases rx;exact SeqAt.EqAt.int_none a t'
  | bl b=>cases rx;exact SeqAt.EqAt.int_bool a t' b
  | int b=>obtain ⟨t,rfl⟩:=rx;exact SeqAt.EqAt.int_int a t' b t
  | str b=>obtain ⟨t,rfl⟩:=rx;exact SeqAt.EqAt.int_str a t' b t
  | _=>exact absurd (show false=true from fx) zK
 | str a=>
  obtain ⟨t',rfl⟩:=ry;cases x with
  | bG=>cases rx;exact SeqAt.EqAt.str_none a t'
  | bl b=>cases rx;exact SeqAt.EqAt.str_bool a t' b
  | int b=>obtain ⟨t,rfl⟩:=rx;exact SeqAt.EqAt.str_int a t' b t
  | str b=>obtain ⟨t,rfl⟩:=rx;exact SeqAt.EqAt.str_str a t' b t
  | _=>exact absurd (show false=true from fx) zK
 | _=>exact absurd (show false=true from fy) zK
def rE (x:V)(u:Value):Bool:=match u with
 | .none=>qa .bG x
 | .bool b=>qa (.bl b) x
 | .int i _=>qa (.int i) x
 | .str z _=>qa (.str z) x
 | _=>false
theorem Kh {x y:V}{u:Value}(r:RelV y u)(f:bT y=true):rE x u=qa y x:=by
 cases y with
 | bG=>cases r;rfl
 | bl b=>cases r;rfl
 | int i=>obtain ⟨t,rfl⟩:=r;rfl
 | str z=>obtain ⟨t,rfl⟩:=r;rfl
 | _=>exact absurd (show false=true from f) zK
theorem iC {x:V}:∀ {xs:List V}{us:List Value},Vals xs us->xs.all bT=true->us.any (rE x)=xs.any λy=>qa y x
 | _,_,.nil,_=>rfl
 | y::xs,u::us,.cons r t,f=>by
  rw [List.all_cons,zX] at f;rw [yu,yu,Kh r f.1,iC t f.2]
theorem fE {A:Around}{s:Shared}{x:V}{v:Value}(rx:RelV x v)(fx:bT x=true):∀ {xs:List V}{us:List Value},Vals xs us->xs.all bT=true->∀ u∈us,SeqAt.EqAt A s u v (rE x u)
 | _,_,.nil,_=>λu hu=>by cases hu
 | y::xs,u::us,.cons r t,f=>λu' hu=>by
  rw [List.all_cons,zX] at f;rcases zP.mp hu with rfl | hu
  ·rw [Kh r f.1];exact Kl r rx f.1 fx
  ·exact fE rx fx t f.2 u' hu
def uE (x:V)(xs:List V):Bool:=xs.any λy=>qa y x
def Uv (K:PySem.W.Frag)(neg:Bool):R2:=λx y H Q=>∃ p xs,y=.ref p/\(aJ K H p xs\/bC K H p xs)/\bT x=true/\xs.all bT=true/\Q (.bl (if neg then !uE x xs else uE x xs)) H
theorem uh:gb X (compareOp .In) (Uv X.K false):=by
 intro aa s σ H x y v u Q I rx ry h;obtain ⟨p,xs,rfl,hq,fx,fs,q⟩:=h;cases ry;rcases hq with hq | hq
 ·obtain ⟨au,r,pl,hz⟩:=I.list hq;refine SeqAt.in_listAt (rE x) pl.isList (λw hw=>fE rx fx r fs w (by simpa using hw)) ⟨.bl _,H,I,rfl,?_⟩;rw [show au.toArray.any (rE x)=au.any (rE x) by simp,iC r fs];exact q
 ·obtain ⟨au,r,pl,hz⟩:=I.tuple hq;refine SeqAt.in_tupleAt (rE x) pl (λw hw=>fE rx fx r fs w (by simpa using hw)) ⟨.bl _,H,I,rfl,?_⟩;rw [show au.toArray.any (rE x)=au.any (rE x) by simp,iC r fs];exact q
theorem mZ:gb X (compareOp .NotIn) (Uv X.K true):=by
 intro aa s σ H x y v u Q I rx ry h;obtain ⟨p,xs,rfl,hq,fx,fs,q⟩:=h;cases ry;rcases hq with hq | hq
 ·obtain ⟨au,r,pl,hz⟩:=I.list hq;refine SeqAt.notIn_listAt (rE x) pl.isList (λw hw=>fE rx fx r fs w (by simpa using hw)) ⟨.bl _,H,I,rfl,?_⟩;rw [show au.toArray.any (rE x)=au.any (rE x) by simp,iC r fs];exact q
 ·obtain ⟨au,r,pl,hz⟩:=I.tuple hq;refine SeqAt.notIn_tupleAt (rE x) pl (λw hw=>fE rx fx r fs w (by simpa using hw)) ⟨.bl _,H,I,rfl,?_⟩;rw [show au.toArray.any (rE x)=au.any (rE x) by simp,iC r fs];exact q
theorem nH:dW X (.builtin "len") (λxs H Q=>∃ p ys,xs=[.ref p]/\(aJ X.K H p ys\/bC X.K H p ys)/\Q (.int ys.length) H):=by
 intro aa s σ H xs us Q I r h;obtain ⟨p,ys,rfl,hq,q⟩:=h;obtain ⟨u,rfl,rx⟩:=vals1 r;cases rx;have hn:=iW;rcases hq with hq | hq
 ·obtain ⟨au,r',pl,hz⟩:=I.list hq;have hlen:=r'.length;exact Calls.call_len_list pl.isList (by simp only [zM] <;> omega) ⟨.int ys.length,H,I.tok _,⟨s.toks + 1,by rw [zM,hlen]⟩,q⟩
 ·obtain ⟨au,r',pl,hz⟩:=I.tuple hq;have hlen:=r'.length;exact len_tuple pl (by simp only [zM] <;> omega) ⟨.int ys.length,H,I.tok _,⟨s.toks + 1,by rw [zM,hlen]⟩,q⟩
theorem nG:dW X (.type "list") (λxs H Q=>∃ p ys,xs=[.ref p]/\(aJ X.K H p ys\/bC X.K H p ys)/\∀ l,H l=none->Q (.ref l) (upd H l (.lst ys))):=by
 intro aa s σ H xs us Q I r h;obtain ⟨p,ys,rfl,hq,q⟩:=h;obtain ⟨u,rfl,rx⟩:=vals1 r;cases rx;have fin:∀ (au:List Value),Vals ys au->ys.length<=sizeLine->∀ (h':Heap) (c':Nat),(∀ b o',s.heap.get? b=some o'->h'.get? b=some o') ->
   h'.get? s.heap.objs.size=some { cls:=.type "list", dict:=none,data:=.seq au.toArray c',slots:=#[] }->EP X aa σ Q (.ref s.heap.objs.size) { s with heap:=h' }:=λau r' hz h' c' kp e=>
  ⟨.ref s.heap.objs.size,_,I.laid (t':=s.toks) kp (zB _) (show aY X.prog X.w _ h' _ (.lst ys) from ⟨hz,au,c',r',e⟩),rfl,q _ (I.br.fresh (zB _))⟩
 rcases hq with hq | hq
 ·obtain ⟨au,r',pl,hz⟩:=I.list hq;have hlen:=r'.length;obtain ⟨o,ho,hc,n,hd⟩:=pl.isList;exact call_list_seq p (.inl rfl) ho hc hd (λh' c' kp e=>fin au r' hz h' c' kp e) (by simp only [zM] <;> omega)
 ·obtain ⟨au,r',pl,hz⟩:=I.tuple hq;have hlen:=r'.length;obtain ⟨o,ho,hc,n,hd⟩:=pl;exact call_list_seq p (.inr rfl) ho hc hd (λh' c' kp e=>fin au r' hz h' c' kp e) (by simp only [zM] <;> omega)
theorem gh:dW X (.type "tuple") (λxs H Q=>∃ p ys,xs=[.ref p]/\((aJ X.K H p ys/\∀ l,H l=none->Q (.ref l) (upd H l (.tup ys)))\/(bC X.K H p ys/\Q (.ref p) H))):=by
 intro aa s σ H xs us Q I r h;obtain ⟨p,ys,rfl,h⟩:=h;obtain ⟨u,rfl,rx⟩:=vals1 r;cases rx;rcases h with ⟨hq,q⟩ | ⟨hq,q⟩
 ·obtain ⟨au,r',pl,hz⟩:=I.list hq;have hlen:=r'.length;refine call_tuple_list pl.isList (λh' kp=>?_) (by simp only [zM] <;> omega);have I1:Inv X aa σ H { s with heap:=h' }:=I.kept (t':=s.toks) kp;have I2:Inv X aa σ (upd H h'.objs.size (.tup ys)) { s with heap:=h'.push { cls:=.type "tuple", data:=.seq au.toArray } }:=
   I1.laid (t':=s.toks) (λb o e=>Heap.get?_push_of_some _ e) (zB _) (show aY X.prog X.w _ _ _ (.tup ys) from ⟨⟨hz,j5⟩,au,r',IsTup.new _ _⟩)
  exact ⟨.ref h'.objs.size,_,I2,rfl,q _ (I1.br.fresh (zB _))⟩
 ·obtain ⟨au,r',pl,hz⟩:=I.tuple hq;exact call_tuple_same pl ⟨.ref p,H,I,rfl,q⟩
def Ua (K:PySem.W.Frag)(T:String)(x:V)(H:Hp):Prop:=match x with
 | .str _=>T = "str"
 | .int _=>T = "int"
 | .ref p=>(T = "list" /\ ∃ xs,aJ K H p xs)\/(T = "tuple" /\ ((∃ o,K.lookup p=some o/\o.cls=.type "tuple" /\ o.dict=none)\/∃ xs,H p=some (.tup xs))) \/
   (T = "dict" /\ ((∃ aE,H p=some (.dK aE))\/∃ aE,H p=some (.dT aE)))\/(T = "set" /\ ∃ S n,H p=some (.set S n))
 | _=>False
theorem vp {aa:List (Addr×Obj)}{σ:St}{H:Hp}{s:Shared}{T:String}{x:V}{v:Value}(I:Inv X aa σ H s)(r:RelV x v)(ty:Ua X.K T x H) :
  s.TypeIs v T/\∀ a,v=.ref a->∃ ob,s.heap.get? a=some ob/\ob.dict=none:=by
 cases x with
 | str z=>
  obtain ⟨t,rfl⟩:=r;cases (show T = "str" from ty);exact ⟨typeIs_str s z t,λ_ e=>nomatch e⟩
 | int i=>
  obtain ⟨t,rfl⟩:=r;cases (show T = "int" from ty);exact ⟨typeIs_int s i t,λ_ e=>nomatch e⟩
 | ref p=>
  cases r;rcases ty with ⟨rfl,xs,hq⟩ | ⟨rfl,⟨o,hk,hc,hd⟩ | ⟨xs,hk⟩⟩ | ⟨rfl,hk⟩ | ⟨rfl,S,n,hk⟩
  ·obtain ⟨au,_,pl,_⟩:=I.list hq;refine ⟨pl.isList.typeIs,λa e=>?_⟩;cases e;obtain ⟨o,n,e,c,hd,_⟩:=pl;exact ⟨o,e,hd⟩
  ·refine ⟨⟨o,I.nU p o hk,hc⟩,λa e=>?_⟩;cases e;exact ⟨o,I.nU _ o hk,hd⟩
  ·obtain ⟨nb,_,_,o,e,c,_⟩:=I.br p _ hk;exact ⟨⟨o,e,c⟩,λa z=>by cases z;exact ⟨o,e,nb.2 o e⟩⟩
  ·have z:∃ o,s.heap.get? p=some o/\o.ExactDict:=by
    rcases hk with ⟨aE,hk⟩ | ⟨aE,hk⟩
    ·obtain ⟨_,_,_,_,o,_,_,e,ex,_⟩:=I.br p _ hk;exact ⟨o,e,ex⟩
    ·obtain ⟨_,_,_,_,o,_,_,e,ex,_⟩:=I.br p _ hk;exact ⟨o,e,ex⟩
   obtain ⟨o,e,ex⟩:=z;refine ⟨⟨o,e,ex.1⟩,λa e2=>?_⟩;cases e2;exact ⟨o,e,ex.2.1⟩
  ·obtain ⟨o,_,_,_,e,ex,_⟩:=I.br p _ hk;refine ⟨⟨o,e,ex.1⟩,λa e2=>?_⟩;cases e2;exact ⟨o,e,ex.2.1⟩
 | _=>exact False.elim ty
def Ui (K:PySem.W.Frag)(T:String)(r:V->List V->Hp->VK->Prop)(to:TE):TE:=fun σ H Q=>to σ H λx H1=>Ua K T x H1/\r x [] H1 Q
def PZ (K:PySem.W.Frag)(T:String)(r:V->List V->Hp->VK->Prop)(to:TE)(t:TA):TE:=fun σ H Q=>to σ H λx H1=>Ua K T x H1/\t σ H1 λxs H2=>r x xs H2 Q
variable {o e:Expr}{es:List Expr}{to:TE}{t:TA}{name:Str}{apos lE:Pos}{T id:String}{r:V->List V->Hp->VK->Prop}
theorem NH (pa:PlainAttrs T)(slot:Slot T name id)(Vb:typeOf (.builtin id)=pure (.type "method_descriptor"))(hm:Wa X id r)(ho:PE X o to)
  (J7:attributeBase o name X.env (eval o X.env)=eval o X.env:=by rfl) (JZ:(apos.endLine == lE.line)=true:=by rfl):PE X (.Call (.Attribute o name apos) [] [] lE) (Ui X.K T r to):=by
 intro aa s σ H Q I h;refine wpAny_Call_method0_late J7 JZ (aX (ho aa s σ H _ I h) λv s1 SG=>?_);obtain ⟨x,H1,I1,r1,ty,q1⟩:=SG;obtain ⟨h1,h2⟩:=vp I1 r1 ty;exact ⟨T,id,pa,slot,Vb,h1,h2,Calls.callWith_builtin rfl (PySem.evalArgs_none (hm aa s1 σ H1 x [] v [] Q I1 r1 .nil q1))⟩
theorem dN (pa:PlainAttrs T)(slot:Slot T name id)(Vb:typeOf (.builtin id)=pure (.type "method_descriptor"))(hm:Wa X id r)(ho:PE X o to)(ha:PA X (e::es) t)
  (J7:attributeBase o name X.env (eval o X.env)=eval o X.env:=by rfl)
  (VC:((backTo lE (starEach (e::es) X.env)).all (λx=>!x.1) && (backToKw lE (keywordEach [] X.env)).all (λx=>x.1.isSome)
   && decide ((e::es).length + ([]:List Keyword).length + (if ([]:List Keyword).isEmpty then 0 else 1) < 30))=true:=by rfl)
  (JZ:(apos.endLine == lE.line)=true:=by rfl) (hs:starEach (e::es) X.env=(false,eval e X.env)::starEach es X.env:=by rfl) (Oc:(backTo lE (starEach es X.env)).any (·.1)=false:=by rfl) :
  PE X (.Call (.Attribute o name apos) (e::es) [] lE) (PZ X.K T r to t):=by
 intro aa s σ H Q I h;refine wpAny_Call_method_late J7 VC JZ rfl (aX (ho aa s σ H _ I h) λv s1 SE=>?_);obtain ⟨x,H1,I1,r1,ty,q1⟩:=SE;obtain ⟨h1,h2⟩:=vp I1 r1 ty;refine ⟨T,id,pa,slot,Vb,h1,h2,?_⟩;have hA:=ha lE aa s1 σ H1 _ I1 q1;rw [hs] at hA ⊢;refine Calls.callWith_builtin (by show (false || (backTo lE (starEach es X.env)).any (·.1))=false;rw [Oc] <;> rfl) (Calls.evalArgs_plain ?_);exact aX hA λus s2 ⟨vs,H2,I2,r2,q2⟩=>hm aa s2 σ H2 x vs v us Q I2 r1 r2 q2
/- xs.append(e),list.index on a Qw tuple .. are Wa facts of 06m -/
end
def Wb (X:Cx)(id:String)(r:V->List V->Hp->VK->Prop):Prop:=
 ∀ (aa:List (Addr×Obj)) (s:Shared) (σ:St) (H:Hp) (x:V) (xs:List V) (v:Value) (us:List Value) (Q:VK),Inv X aa σ H s->RelV x v->Vals xs us->r x xs H Q ->
  wpAny (model X.prog X.w) X.A (call (.builtin id) (v::us)) (EP X aa σ Q) X.xe s
theorem Vals.one:∀ {x:V}{us:List Value},Vals [x] us->∃ u,us=[u]/\RelV x u
 | _,_,.cons r .nil=>⟨_,rfl,r⟩
theorem Vals.zero:∀ {us:List Value},Vals [] us->us=[]
 | _,.nil=>rfl
theorem Vals.dropLast {xs:List V}{us:List Value}(h:Vals xs us):Vals xs.dropLast us.dropLast:=by
 induction h with
 | nil=>exact .nil
 | cons r t ih=>
  cases t with
  | nil=>exact .nil
  | cons q t'=>exact .cons r ih
theorem Vals.eraseIdx:∀ {xs:List V}{us:List Value} (i:Nat),Vals xs us->Vals (xs.eraseIdx i) (us.eraseIdx i)
 | _,_,_,.nil=>.nil
 | _,_,0,.cons _ t=>t
 | _,_,i + 1,.cons r t=>.cons r (Vals.eraseIdx i t)
theorem Vals.reverse {xs:List V}{us:List Value}(h:Vals xs us):Vals xs.reverse us.reverse:=by
 induction h with
 | nil=>exact .nil
 | cons r t ih=>rw [yw,yw];exact Vals.append ih (.cons r .nil)
theorem Vals.rep {xs:List V}{us:List Value}(h:Vals xs us):∀ k:Nat,Vals (List.replicate k xs).flatten (List.replicate k us).flatten
 | 0=>.nil
 | k + 1=>by
  rw [yM,yM,yh,yh];exact Vals.append h (Vals.rep h k)
theorem rz {α:Type}(l:List α):l.eraseIdx (l.length - 1)=l.dropLast:=by
 induction l with
 | nil=>rfl
 | cons a r ih=>
  cases r with
  | nil=>rfl
  | cons b r=>
   have e:(a::b::r).length - 1=((b::r).length - 1) + 1:=by
    have h1:(a::b::r).length=r.length + 2:=rfl;have h2:(b::r).length=r.length + 1:=rfl;omega
   rw [e,List.eraseIdx_cons_succ,ih];all_goals rfl
theorem lY {α:Type}:∀ (l:List α) (i:Nat),(l.eraseIdx i).length<=l.length
 | [],_=>zB _
 | _::_,0=>z8 _
 | _::r,i + 1=>Nat.succ_le_succ (lY r i)
theorem foldl_rep (au:List Value):∀ (k:Nat) (acc:List Value),
  List.foldl (λx1 x2=>x1++x2) acc.toArray (List.replicate k au.toArray)=(acc++(List.replicate k au).flatten).toArray
 | 0,acc=>by simp
 | k + 1,acc=>by
  have e:acc.toArray++au.toArray=(acc++au).toArray:=by simp
  have e2:(acc++au)++(List.replicate k au).flatten=acc++(List.replicate (k + 1) au).flatten:=by
   rw [yM,yh,List.append_assoc]
  rw [<-e2,<- foldl_rep au k (acc++au),<- e,yM,List.foldl_cons]
section
variable {X:Cx}{aa:List (Addr×Obj)}{σ:St}{H:Hp}{s:Shared}{l b:Addr}{xs ys zs:List V}
theorem Inv.NW {au its':List Value}{n:Nat}{f:Array Value->Array Value}{t':Nat}(I:Inv X aa σ H s)(hH:H l=some (.lst xs))
  (e:s.heap.get? l=some { cls:=.type "list", data:=.seq au.toArray n }) (hf:f au.toArray=its'.toArray) (hv:Vals ys its') (hz:ys.length<=sizeLine) :
  Inv X aa σ (upd H l (.lst ys)) { s with heap:=s.heap.update l (Obj.mapSeq f),toks:=t' }:=by
 have q:=PySem.IsL.update e f;rw [hf] at q;refine I.write (x:=l) (e:=l) (by rw [hH];exact trivial) (.inl rfl) (λb' u hb hu=>(Heap.get?_update_other s.heap (Obj.mapSeq f) (Ne.symm hb)).trans hu) ⟨_,q⟩ ?_;exact ⟨hz,its',_,hv,q⟩
theorem Inv.QA {au:List Value}{t':Nat}(I:Inv X aa σ H s)(hv:Vals ys au)(hz:ys.length<=sizeLine) :
  Inv X aa σ (upd H s.heap.objs.size (.lst ys)) { s with heap:=s.heap.push { cls:=.type "list", data:=.seq au.toArray },toks:=t' }:=
 I.laid (λ_ _ q=>Heap.get?_push_of_some _ q) (zB _) ⟨hz,au,0,hv,Heap.get?_push_size _ rfl⟩
theorem Inv.fresh (I:Inv X aa σ H s):H s.heap.objs.size=none:=I.br.fresh (zB _)
theorem Inv.qR (I:Inv X aa σ H s)(hH:H l=some (.lst xs)):xs.length<=sizeLine/\∃ (au:List Value) (n:Nat),Vals xs au/\xs.length=au.length/\s.heap.get? l=some { cls:=.type "list", data:=.seq au.toArray n }:=by obtain ⟨z,au,n,r,e⟩:=I.br l _ hH;exact ⟨z,au,n,r,r.length,e⟩
theorem JE {n:Nat}(h:n<=sizeLine):Builtin.List.listTooLong n=false:=by unfold Builtin.List.listTooLong;exact decide_eq_false (by omega)
end
section
variable {X:Cx}
def g8:V->List V->Hp->VK->Prop:=λx vs H Q=>∃ l xs y,x=.ref l/\vs=[y]/\H l=some (.lst xs)/\xs.length < sizeLine/\Q .bG (upd H l (.lst (xs++[y])))
theorem wE:Wb X "list.append" g8:=by intro aa s σ H x vs v us Q I rx rv h;obtain ⟨l,xs,y,rfl,rfl,hH,hz,q⟩:=h;cases rx;obtain ⟨u,rfl,ru⟩:=rv.one;obtain ⟨z,au,n,r,hl,e⟩:=I.qR hH;refine call_meets F.slot_list_append ⟨_,e,rfl⟩ F.entry_list_append (F.args_list_append_2 _ _) (PySem.list_append l au.toArray n u (by rw [zM];omega)) ⟨e,?_⟩;refine ⟨.bG,_,I.NW (its':=au++[u]) hH e (by simp) (r.append (.cons ru .nil)) ?_,rfl,q⟩;rw [zO,yR];omega
def Uu:V->List V->Hp->VK->Prop:=λx vs H Q=>∃ l xs y,x=.ref l/\vs=[]/\H l=some (.lst xs)/\xs[xs.length - 1]?=some y/\Q y (upd H l (.lst xs.dropLast))
theorem NR:Wb X "list.pop" Uu:=by
 intro aa s σ H x vs v us Q I rx rv h;obtain ⟨l,xs,y,rfl,rfl,hH,hy,q⟩:=h;cases rx;have Zv:=rv.zero;subst Zv;obtain ⟨z,au,n,r,hl,e⟩:=I.qR hH;obtain ⟨u,hu,ru⟩:=r.get hy;have Zu:au.toArray[au.toArray.size - 1]?=some u:=by
  show au.toArray[au.length - 1]?=some u;rw [<-Array.getElem?_toList,<- hl];exact hu
 refine call_meets F.slot_list_pop ⟨_,e,rfl⟩ F.entry_list_pop (F.args_list_pop_1 _) (MeetsSeq.list_pop_last l au.toArray n u Zu (by rw [zM];omega)) ⟨e,?_⟩;refine ⟨y,_,I.NW (its':=au.dropLast) hH e ?_ r.dropLast ?_,ru,q⟩
 ·show au.toArray.eraseIdxIfInBounds (au.toArray.size - 1)=au.dropLast.toArray;rw [zM,List.eraseIdxIfInBounds_toArray,rz]
 ·rw [List.length_dropLast];omega
def NC:V->List V->Hp->VK->Prop:=λx vs H Q=>∃ l xs i k y,x=.ref l/\vs=[.int i]/\H l=some (.lst xs)/\-(2 ^ 63)<=i/\i < 2 ^ 63/\seqIndex? i xs.length=some k/\xs[k]?=some y/\Q y (upd H l (.lst (xs.eraseIdx k)))
theorem JJ:Wb X "list.pop" NC:=by
 intro aa s σ H x vs v us Q I rx rv h;obtain ⟨l,xs,i,k,y,rfl,rfl,hH,h1,h2,hk,hy,q⟩:=h;cases rx;obtain ⟨u,rfl,ru⟩:=rv.one;obtain ⟨t,rfl⟩:=ru;obtain ⟨z,au,n,r,hl,e⟩:=I.qR hH;obtain ⟨w,hw,t8⟩:=r.get hy;refine call_meets F.slot_list_pop ⟨_,e,rfl⟩ F.entry_list_pop (F.args_list_pop_2 _ _)
  (MeetsSeq.list_pop_at l au.toArray n i t k w (fitsIndex_both h1 h2) (by rw [zM,<- hl];exact hk) (by rw [<-Array.getElem?_toList];exact hw) (by rw [zM];omega)) ⟨e,?_⟩
 refine ⟨y,_,I.NW (its':=au.eraseIdx k) hH e ?_ (r.eraseIdx k) ?_,t8,q⟩
 ·show au.toArray.eraseIdxIfInBounds k=(au.eraseIdx k).toArray;rw [List.eraseIdxIfInBounds_toArray]
 ·have:=lY xs k;omega
def Ux:R2:=λx y H Q=>∃ l b xs zs,x=.ref l/\y=.ref b/\H l=some (.lst xs)/\H b=some (.lst zs)/\xs.length + zs.length<=sizeLine/\∀ p,H p=none->Q (.ref p) (upd H p (.lst (xs++zs)))
theorem qM:gb X (binaryOp .Add) Ux:=by
 intro aa s σ H x y v u Q I rx ry h;obtain ⟨l,b,xs,zs,rfl,rfl,hH,hB,hz,q⟩:=h;cases rx;cases ry;obtain ⟨z,au,n,r,hl,e⟩:=I.qR hH;obtain ⟨z2,gK,n2,r2,J1,e2⟩:=I.qR hB;refine PySem.P.add_list e e2 ?_ (by rw [zM,zM];omega);have ea:au.toArray++gK.toArray=(au++gK).toArray:=by simp
 rw [ea];exact ⟨.ref _,_,I.QA (t':=s.toks) (r.append r2) (by rw [zO];omega),rfl,q _ I.fresh⟩
def Ut:R2:=λx y H Q=>∃ l k xs,x=.ref l/\y=.int k/\H l=some (.lst xs)/\-(2 ^ 63)<=k/\k < 2 ^ 63/\xs.length * k.toNat<=sizeLine /\
 ∀ p,H p=none->Q (.ref p) (upd H p (.lst (List.replicate k.toNat xs).flatten))
theorem len_rep {α:Type}(xs:List α)(k:Nat):(List.replicate k xs).flatten.length=k * xs.length:=by
 induction k with
 | zero=>simp
 | succ k ih=>rw [yM,yh,zO,ih,Nat.succ_mul,Nat.add_comm]
theorem Jz:gb X (binaryOp .Mult) Ut:=by
 intro aa s σ H x y v u Q I rx ry h;obtain ⟨l,k,xs,rfl,rfl,hH,h1,h2,hz,q⟩:=h;cases rx;obtain ⟨t,rfl⟩:=ry;obtain ⟨z,au,n,r,hl,e⟩:=I.qR hH;have hlen:au.toArray.size * k.toNat<=sizeLine:=by rw [zM,<- hl];exact hz
 have VH:¬ au.toArray.size * k.toNat > (2 ^ 63 - 1) / 8:=by
  have:(sizeLine:Nat)<=(2 ^ 63 - 1) / 8:=by decide
  omega
 have VB:¬ (!Builtin.List.listFitsIndex k)=true:=by
  rw [fitsIndex_both h1 h2];exact zK
 have QV:¬ Builtin.List.listTooLong (au.toArray.size * k.toNat)=true:=by
  rw [JE hlen];exact zK
 have Oh:List.foldl (λx1 x2=>x1++x2) #[] (List.replicate (if au.toArray.isEmpty=true then 0 else k.toNat) au.toArray)=(List.replicate k.toNat au).flatten.toArray:=by
  have f0:∀ m:Nat,List.foldl (λx1 x2=>x1++x2) #[] (List.replicate m au.toArray)=(List.replicate m au).flatten.toArray:=λm=>by
   have:=foldl_rep au m [];rw [xG] at this;exact this
  rw [f0];cases au with
  | nil=>simp
  | cons a r'=>rw [if_neg (by simp)]
 refine wpAny_binaryOp_repeat_ref (T := "list") (U := "int") (by decide) ⟨_,e,rfl⟩ (λs'=>typeIs_int s' k t) noFill_list_mul F.fills_int_mul F.slot_int_rmul repeat_list F.slot_int_index.lookup
  (call_meets F.slot_int_rmul (typeIs_int s k t) F.entry_int_rmul (F.args_int_rmul_2 _ _) (int___rmul___int_list k t l au.toArray n)
   ⟨e,rfl,⟨_,e,rfl⟩,call_meets F.slot_list_mul ⟨_,e,rfl⟩ F.entry_list_mul (F.args_list_mul_2 _ _) (AutoListH.list___mul___list_int_3 l au.toArray n k t VB VH QV) ⟨e,?_⟩⟩)
 rw [Oh];exact ⟨.ref _,_,I.QA (t':=s.toks) (r.rep k.toNat) (by rw [len_rep,Nat.mul_comm];exact hz),rfl,q _ I.fresh⟩
end
section
variable {prog:Program}{w:World}{A:Around}{E:Value->Shared->Prop}{s:Shared}
set_option maxRecDepth 100000 in
end
section
variable {X:Cx}
end
end L2
namespace Yd
open PySem PySem.W PySem.Calls PyProof.Rows
theorem jv {P:Params}{h:Heap}:∀ (ns:List Int) (vs:List Value),WellAll P h vs (ns.map WData.int)->IntsAre vs ns:=by
 intro ns;induction ns with
 | nil=>
  intro vs w;rw [yU] at w;cases w;exact .nil
 | cons n ns ih=>
  intro vs w;rw [za] at w;cases w with
  | cons a b=>
   cases a;exact .cons _ _ (ih _ b)
theorem tZ {l:OpenLaw}{n:Nat}(hn:l.most=some n){P:Params}{h:Heap}{args:List WData}{vals:List Value}
  (LZ:l.row.toRowW.claim.pre args=true) (U7:WellAll P h vals args) :
  ∃ a vs ns,vals=[Value.ref a]/\args=[WData.list (ns.map WData.int)]/\h.get? a=some { cls:=.type "list", data:=.seq vs.toArray }/\IntsAre vs ns/\ns.length<=n:=by
 have ZC:WShape.hasAll [] args [.list .int]=true:=(pre_splitW LZ).1;have hc:l.pre.holds [] { args:=args }=true:=(pre_splitW LZ).2;obtain ⟨d,r,rfl,h1,h2⟩:=hasAllW_cons ZC;obtain rfl:=hasAllW_nil h2;obtain ⟨xs,rfl,h3⟩:=hasW_list h1;obtain ⟨ns,rfl⟩:=items_int h3;have hlen:ns.length<=n:=by
  unfold OpenLaw.pre at hc;have h4:(WTm.not (.lt (.lit (.int (n:Int))) (.len (.arg 0)))).holds [] { args:=[.list (ns.map .int)] }=true:=by
   have h4:=(holds_andW hc).1;rw [hn] at h4;exact h4
  have h5:=condW_of h4 (w_not (w_lt w_lit (w_len_list (w_arg rfl))));rw [zA] at h5;refine Nat.le_of_not_lt λq=>?_;have q':(n:Int) < ((ns.length:Nat):Int):=by omega
  first
   | (rw [decide_eq_true q'] at h5;exact absurd h5 (by decide))
   | (simp at h5;omega)
 cases U7 with
 | cons w1 w2=>
  cases w2;cases w1 with
  | list ho jw=>exact ⟨_,_,ns,rfl,rfl,ho,jv ns _ jw,hlen⟩
theorem ue (l:OpenLaw)(args:List WData):l.row.toRowW.claim.post args (.bool true) args=true:=
 postW_of (r:=l.row.toRowW) (X:=(true == true))
  (show WShape.has [] (.bool true) .bool=true by first | rfl | decide | simp [WShape.has,WShape.arms,WShape.armsAll])
  (show (WTm.eq .res (.lit (.bool true))).value [] { args:=args,res:=some (.bool true),after:=args }=some (.bool (true == true)) from w_eq_bool (w_res rfl) w_lit) rfl
theorem pY {l:OpenLaw}{n:Nat}{q:Program}{loose:List Str}{XP:(Str->Option Value)->Heap->Prop}{YP:World->Heap->Prop}{d:DefRec}
  (hn:l.most=some n) (Q7:d.params.defaults=[])
  (call:∀ (w:World) (cL aN:Shared) (mg mb:Str->Option Value) (fa:Addr) (o:Obj) (pm cd doc:Value) (a:Addr) (vs:List Value) (ns:List Int),
   Ground q loose [] XP w cL mg mb aN.heap->YP w aN.heap ->
   aN.heap.get? fa=some o->o.data=.func (docDef d.name d.params d.body d.scope pm cd doc)->aN.heap.CodeRec cd d.name->mg d.name=some (.ref fa) ->
   aN.heap.get? a=some { cls:=.type "list", data:=.seq vs.toArray }->IntsAre vs ns->ns.length<=n->aN.gens=#[] ->
   codeAny (model l.prog w) callerA (.call (.ref fa) ⟨[.ref a],[]⟩) (λr s'=>r=.ok (.ret (.bool true))/\OldK aN.heap s'.heap/\s'.os=aN.os/\AllBare s'.gens) aN) :
  WalkO q loose XP YP l.row.toRowW d [] (λf vs=>PySem.call f vs):=by
 intro w cL aN mg mb G Y fa o pm cd doc dV kV ho hd pB hD hmg hg args vals as LZ ZH hrd U7 hlo;obtain rfl:dV=.none:=Dflts.none hD Q7;obtain rfl:kV=.none:=Dflts.noKw hD;obtain ⟨a,vs,ns,rfl,rfl,Og,hints,hlen⟩:=tZ hn LZ U7;refine enter_call (codeAny_mono (call w cL aN mg mb fa o pm cd doc a vs ns G Y ho (fd_plain hd) pB hmg Og hints hlen hg) λr s' hq=>?_);obtain ⟨rfl,h2,h3,h4⟩:=hq;exact ⟨.inl ⟨.bool true,.bool true,[],rfl,λ_=>rfl,.bool true,ue l _,λ_=>⟨List.Pairwise.nil,λ_ hm=>(nomatch hm)⟩⟩,h2,h3,h4⟩
section
variable {prog:Program}{w:World}{A:Around}{E:Value->Shared->Prop}{s:Shared}{K:Frag}
def ledger (h:Heap)(L d:Addr):List (Addr×Obj):=(List.range h.objs.size).filterMap λa=>if a=L\/a=d then none else (h.get? a).map λo=>(a,o)
end
end Yd
namespace L2
open PySem PySem.Spec PyProof.Rows
theorem lK:∀ {vs:List Value}{ns:List Int},IntsAre vs ns->Vals (ns.map V.int) vs
 | _,_,.nil=>.nil
 | _,_,.cons n t h=>.cons ⟨t,rfl⟩ (lK h)
def jC (s:Stmt):Arguments:=match s with
 | .FunctionDef _ a _ _ _ _ _ _ _ _=>a
 | _=>{ posonlyargs:=[],args:=[],vararg:=none,kwonlyargs:=[],kw_defaults:=[],kwarg:=none,defaults:=[] }
def aj (s:Stmt):List Stmt:=match s with
 | .FunctionDef _ _ b _ _ _ _ _ _ _=>b
 | _=>[]
def aq (s:Stmt):Scope:=match s with
 | .FunctionDef _ _ _ _ _ _ sc _ _ _=>sc
 | _=>{ kind:=.function,names:=[],isGenerator:=false,isCoroutine:=false }
abbrev cB:KS:=λ_ _ _ _ _ _=>False
abbrev E0:XK:=λ_ _ _=>False
theorem av {X:Cx}:Passes cB X E0:=λ_ _ _ _ _ _ _ h=>h.elim
structure bu (K:PySem.W.Frag) (x qual:Str) (st:Stmt) (f:Addr) (fd:FuncData):Prop where
 ex:∃ (oc:Value) (od:Option Addr) (kV doc pm:Value) (an:Option Addr) (bK ct:Value) (LF:Array (Option Value)),
  fd=xI x qual (jC st) (aj st) (aq st) .none kV doc pm an bK ct/\K.lookup f=some ⟨oc,od,.func fd,LF⟩/\PySem.W.codeIn K bK qual=true
 kp:zJ K (.ref f)=true
section
variable {P:Program}{w:World}{K:PySem.W.Frag}{mg:Str->Option Value}{base:Heap}
theorem bu.ok {x qual:Str}{st:Stmt}{f:Addr}{fd:FuncData}{N ps:List Str}{k:Nat}{sp:Sp}(F:bu K x qual st f fd)(S:ay N ps (aq st))(len:∀ vs H Q E,sp vs H Q E->vs.length=ps.length)
  (ir:∀ (bK:Value) (A:Around) (outer:List Env) (s:Shared) (H:Hp) (vs:List V) (Q:VK) (E:XK),cX k (A.deeper (envOfC qual (aq st) s.heap.objs.size f bK))->sp vs H Q E ->
   ∃ t,mJ (kC cB P w K mg base N qual (aq st) f bK A outer s H E).JC (aj st) t/\t { nx:=λ_ H'=>Q .bG H',rt:=Q } (start N vs) H):aT P w K mg base cB (k + 1) f fd ps sp:=by
 obtain ⟨oc,od,kV,doc,pm,an,bK,ct,LF,rfl,lk,pB⟩:=F.ex;refine MK lk pB S len λA outer s H vs Q E hr KZ=>?_;obtain ⟨t,h,q⟩:=ir bK A outer s H vs Q E hr KZ;exact ⟨t,h.JC,q⟩
theorem bu.binds {x qual:Str}{st:Stmt}{f:Addr}{fd:FuncData}{ps:List Str}(F:bu K x qual st f fd)
  (h:∀ (kV doc pm:Value) (an:Option Addr) (bK ct:Value) (us:List Value),us.length=ps.length->bindArgs (xI x qual (jC st) (aj st) (aq st) .none kV doc pm an bK ct) ⟨us,[]⟩=pure (ps.zip us)):Binds K fd ps []:=by
 obtain ⟨oc,od,kV,doc,pm,an,bK,ct,LF,rfl,lk,pB⟩:=F.ex;exact .all (h kV doc pm an bK ct)
theorem fun_mk {x qual:Str}{st:Stmt}{f:Addr}{oc:Value}{od an:Option Addr}{LF:Array (Option Value)}{kV doc pm bK ct:Value}(l:K.lookup f=some ⟨oc,od,.func (xI x qual (jC st) (aj st) (aq st) .none kV doc pm an bK ct),LF⟩)
  (c:PySem.W.codeIn K bK qual=true) (k:zJ K (.ref f)=true):bu K x qual st f (xI x qual (jC st) (aj st) (aq st) .none kV doc pm an bK ct):=⟨⟨oc,od,kV,doc,pm,an,bK,ct,LF,rfl,l,c⟩,k⟩
end
section
variable {X:Cx}
theorem pv (i:Nat){x:Str}{pos:Pos}(hN:X.N[i]?=some x:=by rfl)(hv:M5 X.env.scope x=true:=by rfl)(hd:(x == ("__debug__" : Str))=false:=by decide)
  (pB:(x == ("__classdict__" : Str))=false:=by decide):PE X (.Name x pos) (qj i):=NG hN (K6 hv) hd pB
end
theorem UY {A B:Prop}(h:B):if false=true then A else B:=by rw [if_neg zK];exact h
theorem QD {c A B:Prop}[Decidable c](hc:c)(h:B):if (!decide c)=true then A else B:=by rw [decide_eq_true hc];exact UY h
def aA (H H':Hp):Prop:=∀ b o,H b=some o->H' b=some o
theorem aA.refl (H:Hp):aA H H:=λ_ _ h=>h
theorem aA.trans {H H1 H2:Hp}(a:aA H H1)(b:aA H1 H2):aA H H2:=λc o h=>b c o (a c o h)
theorem aA.free {H H':Hp}(e:aA H H'){l:Addr}(h:H' l=Option.none):H l=Option.none:=by
 cases q:H l with
 | none=>rfl
 | some o=>
  rw [e l o q] at h;cases h
theorem aA.seq {K:PySem.W.Frag}{H H':Hp}{a:Addr}{xs:List V}(e:aA H H')(h:aJ K H a xs):aJ K H' a xs:=by
 rcases h with (h | ⟨o,h⟩) | h
 ·exact .inl (.inl (e _ _ h))
 ·exact .inl (.inr ⟨o,e _ _ h⟩)
 ·exact .inr h
theorem lW {prog:Program}{w:World}{A:Around}{R:Result->Shared->Prop}{s:Shared}{elt target iter:Expr}{ifs:List Expr}{scope:Scope}{pos:Pos}{it acc:Value}{env:Env}(I:Nat->Shared->Prop)
  (turn:∀ n s,I n s->wpAny (model prog w) A (pyNext it) (λr aN=>match r with
   | none=>R (.ok .next) aN
   | some v=>wpAny (model prog w) A (letOwnedTupleGo target it v) (λ_ Mv=>wpAny (model prog w) A (assign target env v) (λ_ jL=>
     wpAny (model prog w) A (forIn ifs true λc r=>if r=true then do let ok <- isTrue c env (eval c env);pure (ForInStep.yield ok) else pure (ForInStep.yield r)) (λok tN=>
      if ok=true then wpAny (model prog w) A (eval elt env) (λx P1=>
       wpAny (model prog w) A (call (.builtin "list.append") [acc,x]) (λ_ P0=>∃ m,m < n/\I m P0) (λ_ _=>False) P1) (λ_ _=>False) tN
      else ∃ m,m < n/\I m tN) (λ_ _=>False) jL) (λ_ _=>False) Mv) (λ_ _=>False) aN) (λ_ _=>False) s)
  (n:Nat) (h:I n s) :
  codeAny (model prog w) A (.compLoop (.ListComp elt [⟨target,iter,ifs,0⟩] scope pos) 0 it acc env) R s:=by
 refine codeAny_loop rfl I (λn s hI=>?_) n h;show wpAny _ A ((compTurn (.ListComp elt [⟨target,iter,ifs,0⟩] scope pos) 0 it acc env).onRaise (λx=>do noteFrame x env;theTreesLotGoes x)) _ _ s;refine wpAny_noted ?_;rw [compTurn_list];refine wpAny_bind (wpAny_standAt (wpAny_bind (wpAny_mono (turn n s hI) (λr aN eZ=>?_) λ_ _ h'=>h'.elim)));cases r with
 | none=>exact wpAny_pure eZ
 | some v=>
  refine wpAny_bind (wpAny_mono eZ (λ_ Mv QJ=>?_) λ_ _ h'=>h'.elim);refine wpAny_bind (wpAny_mono QJ (λ_ jL JW=>wpAny_bind (wpAny_mono JW (λok tN LU=>?_) λ_ _ h'=>h'.elim)) λ_ _ h'=>h'.elim);cases ok with
  | false=>exact wpAny_pure ⟨rfl,LU⟩
  | true=>
   exact wpAny_bind (wpAny_bind (wpAny_mono LU (λx P1 U3=>wpAny_bind (wpAny_mono U3 (λ_ P0 U1=>wpAny_pure (wpAny_pure ⟨rfl,U1⟩)) λ_ _ h'=>h'.elim)) λ_ _ h'=>h'.elim))
def cZ (names:List (Str×NameKind))(env:Env)(cs:List (Str×Addr)):List (Str×Addr):=
 names.foldl (λcs p=>if p.2=.free then (match env.cells.lookup p.1 with | some c=>(p.1,c)::cs | none=>cs) else cs) cs
theorem iz {env:Env}:∀ (names:List (Str×NameKind)) (cs:List (Str×Addr)),(∀ y∈names,y.2=.free->∃ c,env.cells.lookup y.1=some c) ->
  (forIn names cs λx r=>(if (x.2 == NameKind.free)=true then do let a <- cellOf env x.1;pure (ForInStep.yield ((x.1,a)::r)) else pure (ForInStep.yield r):Sem _))=pure (cZ names env cs)
 | [],cs,_=>by simp [cZ]
 | (n,k)::r,cs,h=>by
  have ih:=λcs=>iz r cs λy hy=>h y (zp _ hy);simp only [List.forIn_cons];by_cases hk:k=.free
  ·subst hk;obtain ⟨c,e⟩:=h (n,.free) yJ rfl;have e':env.cells.lookup n=some c:=e;have ec:cellOf env n=pure c:=by unfold cellOf;rw [e']
   simp only [beq_self_eq_true,if_true,ec,pure_bind];rw [ih];simp [cZ,e']
  ·have hb:(k == NameKind.free)=false:=by simpa using hk
   simp only [hb,ze,if_false,pure_bind];rw [ih];simp [cZ,hk]
theorem dF {scope:Scope}{env:Env}(h:∀ y∈scope.names,y.2=.free->∃ c,env.cells.lookup y.1=some c):closureFor scope env=pure (cZ scope.names env []):=by unfold closureFor;have:=iz scope.names [] h;simp only [bind_pure];exact this
theorem pO {env:Env}:∀ (names:List (Str×NameKind)) (cs:List (Str×Addr)) (x:Str) (c:Addr),(x,c)∈cZ names env cs->(x,c)∈cs\/env.cells.lookup x=some c
 | [],cs,x,c,h=>.inl h
 | (n,k)::r,cs,x,c,h=>by
  have h':(x,c)∈cZ r env (if k=.free then (match env.cells.lookup n with | some c=>(n,c)::cs | none=>cs) else cs):=h;rcases pO r _ x c h' with q | q
  ·split at q
   ·cases e:env.cells.lookup n with
    | none=>rw [e] at q;exact .inl q
    | some d=>
     rw [e] at q;rcases zP.mp q with z | z
     ·cases z;exact .inr e
     ·exact .inl z
   ·exact .inl q
  ·exact .inr q
theorem mC {env:Env}:∀ (names:List (Str×NameKind)) (cs:List (Str×Addr)) (x:Str),(∃ c,(x,c)∈cs)->∃ c,(x,c)∈cZ names env cs
 | [],cs,x,h=>h
 | (n,k)::r,cs,x,⟨c,h⟩=>by
  refine mC r _ x ?_;dsimp only;split
  ·split
   ·exact ⟨c,zp _ h⟩
   ·exact ⟨c,h⟩
  ·exact ⟨c,h⟩
theorem pP {env:Env}:∀ (names:List (Str×NameKind)) (cs:List (Str×Addr)) (x:Str),(x,NameKind.free)∈names->(∃ c,env.cells.lookup x=some c)->∃ c,(x,c)∈cZ names env cs
 | [],_,_,h,_=>by simp at h
 | (n,k)::r,cs,x,h,⟨c,e⟩=>by
  rcases zP.mp h with z | z
  ·have e1:x=n:=congrArg Prod.fst z;have e2:NameKind.free=k:=congrArg Prod.snd z;subst e1 e2;refine mC r _ x ⟨c,?_⟩;dsimp only;rw [if_pos rfl,e];exact yJ
  ·exact pP r _ x z ⟨c,e⟩
theorem gg {β:Type}:∀ (l:List (Str×β)) (x:Str) (c:β),(x,c)∈l->∃ d,l.lookup x=some d
 | (n,d)::r,x,c,h=>by
  cases hx:x == n with
  | true=>exact ⟨d,by simp [yZ,hx]⟩
  | false=>
   simp only [yZ,hx];rcases zP.mp h with z | z
   ·cases z;simp at hx
   ·exact gg r x c z
theorem xw {names:List (Str×NameKind)}{env:Env}{x:Str}{c:Addr}(h:(cZ names env []).lookup x=some c):env.cells.lookup x=some c:=by
 rcases pO names [] x c (zn h) with q | q
 ·simp at q
 ·exact q
theorem fV {names:List (Str×NameKind)}{env:Env}{x:Str}{c:Addr}(h:(x,NameKind.free)∈names)(e:env.cells.lookup x=some c):(cZ names env []).lookup x=some c:=by obtain ⟨d,hd⟩:=pP names [] x h ⟨c,e⟩;obtain ⟨d',Ma⟩:=gg _ _ _ hd;have:=xw Ma;rw [e] at this;cases this;exact Ma
theorem cK {env:Env}:∀ {names:List (Str×NameKind)}{x:Str},names.lookup x=some .free ->
  (names.map λ(n,k)=>if (k == NameKind.free && env.scope.kind == .function && env.kindOf n == some .cell) then (n,NameKind.cell) else (n,k)).lookup x=some .cell \/
  (names.map λ(n,k)=>if (k == NameKind.free && env.scope.kind == .function && env.kindOf n == some .cell) then (n,NameKind.cell) else (n,k)).lookup x=some .free
 | [],_,h=>by simp at h
 | (n,k)::r,x,h=>by
  have ih:=@cK env r x;show List.lookup x ((if (k == NameKind.free && env.scope.kind == .function && env.kindOf n == some .cell)=true then (n,NameKind.cell) else (n,k))::_)=_\/List.lookup x ((if (k == NameKind.free && env.scope.kind == .function && env.kindOf n == some .cell)=true then (n,NameKind.cell) else (n,k))::_)=_;by_cases hc:(k == NameKind.free && env.scope.kind == .function && env.kindOf n == some .cell)=true
  ·rw [if_pos hc];cases hx:x == n with
   | true=>left;simp [yZ,hx]
   | false=>
    simp only [yZ,hx] at h ⊢;exact ih h
  ·rw [if_neg hc];cases hx:x == n with
   | true=>
    simp only [yZ,hx] at h;cases h;right;simp [yZ,hx]
   | false=>
    simp only [yZ,hx] at h ⊢;exact ih h
structure bq (own:List Str) (caps:List Nat) (N:List Str) (sc scope:Scope):Prop where
 kind:scope.kind=.function
 gJ:∀ y∈scope.names,y.2≠.cell
 loc:∀ y∈scope.names,y.2=.local->scope.names.lookup y.1=some .local
 fr:∀ y∈scope.names,y.2=.free->sc.names.lookup y.1=some .cell\/sc.names.lookup y.1=some .free
 V2:∀ i∈caps,i < N.length/\scope.names.lookup ((N[i]?).getD Str.empty)=some .free
def eS (X:Cx)(own:List Str)(caps:List Nat)(scope:Scope)(s:Shared)(H:Hp)(fp:List Addr)(C:Addr):Cx:=
 { X with N:=own++caps.map (λi=>(X.N[i]?).getD Str.empty),cL:=s,uW:=H,env:=compEnvC scope (cZ scope.names X.env []) C X.env,outer:=X.stack,ex:=fp,fn:=λ_=>false,pn:=[],xe:=λ_ _=>False }
def jt (n:Nat)(caps:List Nat)(σ:St):St:=List.replicate n none++caps.map λi=>(σ[i]?).join
section
variable {X:Cx}{aa:List (Addr×Obj)}{σ:St}{H:Hp}{s:Shared}
theorem iw {scope:Scope}{env:Env}(nc:∀ y∈scope.names,y.2≠.cell){x:Str}{k:NameKind}(hk:k=.cell\/k=.free)(h:(relabel scope env).names.lookup x=some k):(x,NameKind.free)∈scope.names:=by
 have hm:=zn h;obtain ⟨⟨n,k0⟩,hy,e⟩:=zS.mp hm;dsimp only at e;split at e
 ·rename_i hc;simp only [zX,beq_iff_eq] at hc;have e1:n=x:=congrArg Prod.fst e;subst e1;rw [hc.1.1] at hy;exact hy
 ·cases e;rcases hk with z | z
  ·subst z;exact absurd rfl (nc _ hy)
  ·subst z;exact hy
theorem o6 {own:List Str}{caps:List Nat}{scope:Scope}{fp:List Addr}{D C:Addr}{o:Obj}{h1:Heap}{tk:Nat}(I:Inv X aa σ H s)(S:bq own caps X.N X.env.scope scope)
  (f:∀ b∈fp,gQ X aa H b) (fl:∀ b∈fp,b < s.heap.objs.size) (hD:s.heap.objs.size<=D) (hC:s.heap.objs.size<=C) (Mc:D≠C) (keep:∀ b o,s.heap.get? b=some o->h1.get? b=some o)
  (L3:h1.Ns C λ_=>none) (J8:h1.get? D=some o) (ho:∀ v,o.data≠.cell v) :
  Inv (eS X own caps scope s H fp C) [(D,o)] (jt own.length caps σ) H { s with heap:=h1,toks:=tk }:=by
 have sub:∀ b∈u9 X.stack,b < s.heap.objs.size:=λb hb=>by
  rcases zP.mp (I.iN b hb) with e | hb
  ·rw [e];exact I.lt
  ·by_cases q:b < s.heap.objs.size
   ·exact q
   ·exact absurd hb (I.Qn (Nat.le_of_not_lt q))
 refine ⟨⟨I.ok.mod,S.kind,I.ok.glob,I.ok.blt,hC,λx y c h1 h2=>I.ok.inj x y c (xw h1) (xw h2),λx hx=>?_,λx c z _=>absurd (show false=true from z) zK,I.ok.hd,I.ok.frames,.inl rfl,
   λb hb=>⟨zU (zR (fl b hb) hC),λx c e=>(f b hb).2.2.2.2.1 x c (xw e)⟩,I.bs,zu I.ok.Ky I.sz,λb ob e hb=>?_,λb hb hs=>?_,I.stack,I.mP⟩,
  rfl,I.bare,Un.kept keep,⟨_,L3,λi x v e1 e2 e3=>?_⟩,λx c e=>?_,I.br.fresh hC,λx c e=>I.fK x c (xw e),λp hp=>?_,I.br.kept keep,?_⟩
 ·have hm:(x,NameKind.free)∈scope.names:=by
   rcases hx with hx | hx
   ·exact iw S.gJ (.inl rfl) hx
   ·exact iw S.gJ (.inr rfl) hx
  obtain ⟨c,hc⟩:=I.ok.has x (S.fr _ hm rfl);exact ⟨c,fV hm hc⟩
 ·rcases (f b hb).2.2.2.1 with z | z
  ·exact I.ok.JF b ob e z
  ·exact absurd (zR (Heap.lt_size e) (zu I.ok.Ky z)) (zy _)
 ·rcases zP.mp (I.iN b hs) with e | e
  ·exact (f b hb).2.1 e
  ·exact (f b hb).2.2.1 e
 ·have sI:(List.replicate own.length (none:Option V)++caps.map λi=>(σ[i]?).join)[i]?=some (some v):=e2;have sJ:(own++caps.map (λi=>(X.N[i]?).getD Str.empty))[i]?=some x:=e1;have hi:own.length<=i:=by
   by_cases q:i < own.length
   ·rw [zf (by simpa using q),List.getElem?_replicate,if_pos q] at sI;cases sI
   ·exact Nat.le_of_not_lt q
  rw [zW (by simpa using hi),List.length_replicate,zG] at sI;rw [zW hi,zG] at sJ;cases ek:caps[i - own.length]? with
  | none=>rw [ek] at sJ;cases sJ
  | some k=>
   rw [ek] at sJ sI;have ex:(X.N[k]?).getD Str.empty=x:=Option.some.inj sJ;have ev:(σ[k]?).join=some v:=Option.some.inj sI;have VY:σ[k]?=some (some v):=by
    cases q:σ[k]? with
    | none=>rw [q] at ev;cases ev
    | some y=>rw [q] at ev;exact congrArg some ev
   obtain ⟨hl,hf⟩:=S.V2 k (zD ek);have eN:X.N[k]?=some x:=by
    rw [zI hl] at ex ⊢;exact congrArg some ex
   rw [ex] at hf;have hm:=zn hf;have Q5:=S.fr _ hm rfl;obtain ⟨m,_,Om⟩:=I.loc;obtain ⟨u,ru,lk⟩:=Om k x v eN VY (.inr Q5);refine ⟨u,ru,.inr ⟨cK hf,?_⟩⟩;rcases lk with ⟨kl,_⟩ | ⟨_,c,hc,ob,JY,hd⟩
   ·have LO:X.env.scope.names.lookup x=some .local:=kl;rcases Q5 with z | z
    ·have z':X.env.scope.names.lookup x=some .cell:=z;rw [z'] at LO;cases LO
    ·have z':X.env.scope.names.lookup x=some .free:=z;rw [z'] at LO;cases LO
   ·exact ⟨c,fV hm hc,ob,keep c ob JY,hd⟩
 ·obtain ⟨v,ob,JY,hd⟩:=I.cell x c (xw e);exact ⟨v,ob,keep c ob JY,hd⟩
 ·have e:p=(D,o):=by simpa using (show p∈[]++[(D,o)] from hp)
  subst e;refine ⟨J8,I.br.fresh hD,Mc,λz=>?_,ho⟩;exact absurd (zR (sub D z) hD) (zy _)
 ·show (jt own.length caps σ).length=(own++caps.map (λi=>(X.N[i]?).getD Str.empty)).length;simp [jt]
def SA (X:Cx)(ifs:List Expr)(t:TT):Prop:=
 ∀ (aa:List (Addr×Obj)) (s:Shared) (σ:St) (H:Hp) (Q:Bool->Hp->Prop),Inv X aa σ H s->t σ H Q ->
  wpAny (model X.prog X.w) X.A (forIn ifs true λc r=>if r=true then do let ok <- isTrue c X.env (eval c X.env);pure (ForInStep.yield ok) else pure (ForInStep.yield r)) (TP X aa σ Q) X.xe s
def vv:TT:=λ_ H Q=>Q true H
theorem dZ:SA X [] vv:=λ_ s σ H Q I h=>wpAny_tests_nil ⟨H,I,h⟩
theorem se {c:Expr}{t:TT}(h:PT X c t):SA X [c] t:=λaa s σ H Q I q=>wpAny_tests_one (h aa s σ H Q I q)
def Mu (n:Nat)(caps:List Nat)(wi:TI)(g:TG)(tc:TT)(te:TE):TE:=fun σ H Q=>wi σ H λJ H1=>∃ W:Nat->Nat->St->List V->Hp->Prop,(∃ m,W 0 m (jt n caps σ) [] H1)/\∀ i m τ acc H,W i m τ acc H ->
 (J.stop i H/\acc.length<=sizeLine/\∀ p,H p=none->Q (.ref p) (upd H p (.lst acc))) \/
 (J.go i H/\acc.length < sizeLine/\∀ x H',J.rQ i H x H'->g x τ H' fun c8 H2=>tc c8 H2 λb H3=>if b=true then te c8 H3 λy H4=>∃ m',m' < m/\W (i + 1) m' c8 (acc++[y]) H4 else ∃ m',m' < m/\W (i + 1) m' c8 acc H3)
theorem fP.Mt {P:Program}{w:World}{H:Hp}{h:Heap}{a:Addr}{o:HO}(x:fP P w H h)(hn:H a=none)(new:aY P w (upd H a o) h a o):fP P w (upd H a o) h:=λb u e=>by
 by_cases hb:b=a
 ·subst hb;rw [xN] at e;cases e;exact new
 ·rw [xR hb] at e;exact (x b u e).gA (λc v _ q=>q) (λc q=>by rw [xR (xQ q hn)];exact q) λc xs q=>by rw [xR (xQ q hn)];exact q
theorem dh {own:List Str}{caps:List Nat}{elt tg iter:Expr}{ifs:List Expr}{scope:Scope}{pos:Pos}{wi:TI}{g:TG}{tc:TT}{te:TE}(hc:X.calm=true)(S:bq own caps X.N X.env.scope scope)(hi:PI X tg iter wi)
  (hg:∀ s H fp C,PG (eS X own caps scope s H fp C) tg g) (ht:∀ s H fp C,SA (eS X own caps scope s H fp C) ifs tc) (he:∀ s H fp C,PE (eS X own caps scope s H fp C) elt te)
  (hs:∀ x,foldedSetIterable iter X.env x=pure x:=by intro _;rfl):PE X (.ListComp elt [⟨tg,iter,ifs,0⟩] scope pos) (Mu own.length caps wi g tc te):=by
 intro aa s σ H Q I h;rw [eval_ListComp];refine wpAny_comprehension_free (use:=none) (cl:=cZ scope.names X.env []) rfl hs (dF λy hy e=>I.ok.has y.1 (S.fr y hy e)) S.kind S.loc
  (wpAny_mono (hi aa s σ H _ I h) (λv s1 h1=>aX h1 λSa s2 h2=>?_) λ_ _ e=>e)
 obtain ⟨it,fp,tn,J,H2,e,I2,T,Nk,f2,W,⟨m0,w0⟩,turn⟩:=h2;subst e;refine wpAny_newObj_type (wpAny_newFunctionEnv S.gJ (by intro y hy;simp at hy) (λeZ gM eO=>?_) S.kind);dsimp only at gM eO ⊢;generalize Oz:s2.heap.push { cls:=.type "list", dict:=none,data:=.seq ([]:List Value).toArray }=G at gM eO ⊢;have hG:G.objs.size=s2.heap.objs.size + 1:=by rw [<-Oz,Heap.size_push]
 have Mc:s2.heap.objs.size≠G.objs.size:=by rw [hG];exact zU (xA _)
 have Me:s2.heap.objs.size<=G.objs.size:=by rw [hG];exact z8 _
 have below:∀ b,b < s2.heap.objs.size->b≠G.objs.size:=λb hb=>by rw [hG];exact zU (yi hb)
 have old:∀ b o,s2.heap.get? b=some o->eZ.get? b=some o:=λb o e=>eO.extBut b o (below b (Heap.lt_size e)) (Heap.get?_push_of_some _ (Oz ▸ Heap.get?_push_of_some _ e));have J8:eZ.get? s2.heap.objs.size=some { cls:=.type "list", dict:=none,data:=.seq ([]:List Value).toArray }:=eO.extBut _ _ Mc (Heap.get?_push_of_some _ (Oz ▸ Heap.get?_push_size _ rfl));have fl:∀ b∈fp,b < s2.heap.objs.size:=λb hb=>let ⟨o,e,_⟩:=T.obj _ _ Nk b hb;Heap.lt_size e;have nh:eZ.Ns G.objs.size λ_=>none:=gM;have I4:=o6 (tk:=s2.toks + ([]:List (Str×Value)).length) I2 S f2 fl (zB _) Me Mc old nh J8 (λv z=>nomatch z);have Nj:tn 0 eZ:=T.keep _ _ _ Nk λb _ o e=>old b o e;generalize Vg:({ s2 with heap:=eZ,toks:=s2.toks + ([]:List (Str×Value)).length }:Shared)=s4 at I4 ⊢;have e4:s4.heap=eZ:=by rw [<-Vg]
 rw [<-e4] at Nj
 -- Lb loop
 have loop:codeAny (model X.prog X.w) X.A (.compLoop (.ListComp elt [⟨tg,iter,ifs,0⟩] scope pos) 0 (.ref it) (.ref s2.heap.objs.size) (compEnvC scope (cZ scope.names X.env []) G.objs.size X.env))
   (compPost (model X.prog X.w) X.A X.xe none (EP X aa σ Q) (.ref s2.heap.objs.size) G.objs.size) s4:=by
  let Y:=eS X own caps scope s2 H2 fp G.objs.size
  have jN:∀ {H':Hp}{au:List Value}{n:Nat},(∀ b∈fp,H' b=none)->∀ b∈fp,gQ Y [(s2.heap.objs.size,({ cls:=.type "list", data:=.seq au.toArray n }:Obj))] H' b:=λ{H' au n} hn b hb=>by
   refine ⟨hn b hb,below b (fl b hb),λz=>?_,.inl hb,λx c e=>(f2 b hb).2.2.2.2.1 x c (xw e),λp hp=>?_⟩
   ·rcases zP.mp (I2.iN b z) with e | e
    ·exact (f2 b hb).2.1 e
    ·exact (f2 b hb).2.2.1 e
   ·have e:p=(s2.heap.objs.size,({ cls:=.type "list", data:=.seq au.toArray n }:Obj)):=by simpa using (show p∈[]++[_] from hp)
    subst e;exact yT (fl b hb)
  refine lW (λn s'=>∃ i τ acc au k H',Inv Y [(s2.heap.objs.size,({ cls:=.type "list", data:=.seq au.toArray k }:Obj))] τ H' s'/\tn i s'.heap/\(∀ b∈fp,H' b=none)/\Vals acc au/\W i n τ acc H') ?_ m0
   ⟨0,_,[],[],0,H2,I4,Nj,λb hb=>(f2 b hb).1,.nil,w0⟩
  rintro n s5 ⟨i,τ,acc,au,k,H5,I5,Lg,OI,Lq,w5⟩;rcases turn i n τ acc H5 w5 with ⟨stop,hz,q⟩ | ⟨go,hz,step⟩
  ·refine aX (T.done Y rfl rfl rfl hc i _ s5 τ H5 (λ_ _=>False) I5 (jN OI) Lg stop) λr s6 ⟨hr,I6⟩=>?_;subst hr;obtain ⟨eD,nD,_,_,_⟩:=I6.pin _ (zE _ (zN.mpr rfl));obtain ⟨m6,Vm,_⟩:=I6.loc;refine ⟨m6,Vm,λh' u7=>?_⟩;have Sl:H5 G.objs.size=none:=I6.free;have eD':h'.get? s2.heap.objs.size=some { cls:=.type "list", data:=.seq au.toArray k }:=u7.extBut _ _ Mc eD;have Oe:fP X.prog X.w H5 h':=λb u e=>(I6.br b u e).gA (λc v ZV qv=>u7.extBut c v (by
     rcases ZV with z | z
     ·subst z;exact xQ e Sl
     ·exact xQ z Sl) qv) (λ_ q=>q) λ_ _ q=>q
   refine ⟨.ref s2.heap.objs.size,_,?_,rfl,q _ nD⟩;have ub:=I6.base;refine I2.MP (ch:=fp) (s':={ s6 with heap:=h' }) I6.os ⟨λb o e n' hb hx=>u7.extBut b o (below b (Heap.lt_size e)) (ub.keep b o e n' hb hx),λb o e n' hb hx=>?_,λb o e n' hx=>?_,λb o e hx=>?_,λb xs e=>?_,λb o u e=>?_,λb ps e=>?_⟩
    (Oe.Mt nD ⟨hz,au,k,Lq,eD'⟩) I6.bare λb hb=>⟨(f2 b hb).2.2.2.1,(f2 b hb).2.1,(f2 b hb).2.2.2.2.1,(f2 b hb).2.2.2.2.2⟩
   ·obtain ⟨sl,e'⟩:=ub.slot b o e n' hb hx;exact ⟨sl,u7.extBut b _ (below b (Heap.lt_size e)) e'⟩
   ·rw [xR (zU (Heap.lt_size e))];exact ub.free b o e n' hx
   ·obtain ⟨o',e'⟩:=ub.there b o e hx;exact ⟨o',u7.extBut b _ (below b (Heap.lt_size e)) e'⟩
   ·have z:=ub.aR b xs e;rw [xR (xQ z nD)];exact z
   ·have z:=ub.kj b o u e;rw [xR (xQ z nD)];exact z
   ·obtain ⟨more,z⟩:=ub.jI b ps e;exact ⟨more,by rw [xR (xQ z nD)];exact z⟩
  ·refine aX (T.item Y rfl rfl rfl hc i _ s5 τ H5 (λ_ _=>False) I5 (jN OI) Lg go) λr s6 ⟨u,hr,h6⟩=>?_;subst hr;refine aX h6 λ_ s7 ⟨x,H7,I7,r7,y7,Ni,VT⟩=>?_;have Wf:=I7.pinned (jN VT) (T.obj _ _ Ni);refine aX (hg s2 H2 fp G.objs.size _ s7 τ H7 x u _ Wf r7 (step x H7 y7)) λ_ s8 ⟨vf,H8,I8,q8⟩=>?_;refine aX (ht s2 H2 fp G.objs.size _ s8 vf H8 _ I8 q8) λok s9 ⟨H9,I9,q9⟩=>?_
   -- Lb j7 state behind Lb turn
   have back:∀ {s':Shared}{PJ:St}{H':Hp},Inv Y ([(s2.heap.objs.size,({ cls:=.type "list", data:=.seq au.toArray k }:Obj))]++iS fp s7.heap) PJ H' s'->(tn (i + 1) s'.heap/\∀ b∈fp,H' b=none):=λ{s' PJ H'} Ib=>
    ⟨T.keep _ _ _ Ni λb hb o e=>(Ib.pin (b,o) (zE _ (zE _ (wt hb e)))).1,λb hb=>by
     obtain ⟨o,e,d⟩:=T.obj _ _ Ni b hb;exact (Ib.pin (b,o) (zE _ (zE _ (wt hb e)))).2.1⟩
   cases ok with
   | false=>
    obtain ⟨m',pe,w'⟩:=q9;obtain ⟨sb,fb⟩:=back I9;exact ⟨m',pe,i + 1,vf,acc,au,k,H9,I9.dG,sb,fb,Lq,w'⟩
   | true=>
    refine aX (he s2 H2 fp G.objs.size _ s9 vf H9 _ I9 q9) λy jP ⟨yv,ve,O7,Uy,Uz⟩=>?_;obtain ⟨m',pe,w'⟩:=Uz;obtain ⟨sb,fb⟩:=back O7;obtain ⟨eD,nD,NQ,UK,_⟩:=O7.pin (s2.heap.objs.size,_) (zE _ (zT _ (zN.mpr rfl)));have hl:acc.length=au.length:=Lq.length;refine call_meets F.slot_list_append ⟨_,eD,rfl⟩ F.entry_list_append (F.args_list_append_2 _ _) (PySem.list_append s2.heap.objs.size au.toArray k y (by rw [zM];omega)) ⟨eD,?_⟩;have q:=PySem.IsL.update eD (λa:Array Value=>a.push y);have Iu:Inv Y [] vf ve jP:=O7.bO λp hp=>nomatch hp;have It:=Iu.turned (t':=jP.toks) (it:=s2.heap.objs.size) (h':=jP.heap.update s2.heap.objs.size (Obj.mapSeq (λa:Array Value=>a.push y))) (λb o hb e=>(Heap.get?_update_other jP.heap _ (Ne.symm hb)).trans e) nD NQ (.inr (zB _))
     (λx c e z=>by
      obtain ⟨v,ob,JY,_⟩:=I2.cell x c (xw e);exact absurd (Heap.lt_size JY) (by rw [z];exact zy _)) (λp hp=>nomatch hp)
    have We:=It.bO (dJ:=[(s2.heap.objs.size,({ cls:=.type "list", data:=.seq (au++[y]).toArray (k + 1) }:Obj))]) λp hp=>by
     have e:p=_:=zN.mp hp;subst e;exact ⟨by simpa using q,nD,NQ,UK,λv z=>nomatch z⟩
    refine ⟨m',pe,i + 1,vf,acc++[yv],au++[y],_,ve,We,T.keep _ _ _ sb λb hb o e=>(Heap.get?_update_other jP.heap _ (yT (fl b hb))).trans e,fb,Lq.append (.cons Uy .nil),w'⟩
 exact codeAny_compStart_list loop (T.self _ 0 s4 _ _ Nj loop)
end
open AutoSeq1 (wpAny_loadPart')
section
variable {prog:Program}{w:World}{A:Around}{E:Value->Shared->Prop}{s:Shared}
theorem NN {it t:Addr}{i:Nat}{items}{x:Value}{Q:Value->Shared->Prop}(hit:s.heap.IsTupleIter it t i)(ht:s.heap.IsTuple t items)(hx:items[i]?=some x)
  (hQ:∀ h',h'.IsTupleIter it t (i + 1)->Heap.SameBut it s.heap h'->Q x { s with heap:=h' }):wpAny (model prog w) A (Builtin.SmallTypes.nextOf (.ref it)) Q E s:=by
 have ty:=hit.typeIs (s:=s);obtain ⟨o,ho,hc,hd⟩:=hit;obtain ⟨ot,Vi,_,n,VF⟩:=ht;have new:=hQ _ ⟨_,Heap.get?_update_self (Obj.mapFields (·.set! 1 (rawInt (i + 1)))) ho (Obj.isFreed_of_fields (Obj.data_mapFields hd _)),(Obj.cls_mapFields ..).trans hc,by rw [Obj.data_mapFields hd];simp [rawInt]⟩ (Heap.SameBut.update ..);unfold Builtin.SmallTypes.nextOf;refine wpAny_bind (wpAny_callSpecial?_slot ty F.slot_tuple_iterator_next (wpAny_call_entry F.slot_tuple_iterator_next ty F.entry_tuple_iterator_next ?_ (F.args_tuple_iterator_next_1 _)));unfold Builtin.«tuple_iterator.__next__»;wp_walk using wpAny_field ho hd (x:=.ref t) rfl,wpAny_field ho hd (x:=.int i 0) rfl,wpAny_seqItems Vi VF;simp only [yG,hx];wp_walk using wpAny_setField ho hd (by simp);exact ⟨x,rfl,wpAny_pure new⟩
theorem sr {it t:Addr}{i:Nat}{items}{Q:Value->Shared->Prop}(hh:A.handled=none)(hit:s.heap.IsTupleIter it t i)(ht:s.heap.IsTuple t items)(hx:items[i]?=none)
  (hE:∀ h' e,Heap.ExtBut it s.heap h'->(∃ o,h'.get? e=some o/\o.cls=.type "StopIteration")->E (.ref e) { s with heap:=h' }):wpAny (model prog w) A (Builtin.SmallTypes.nextOf (.ref it)) Q E s:=by
 have ty:=hit.typeIs (s:=s);obtain ⟨o,ho,hc,hd⟩:=hit;obtain ⟨ot,Vi,_,n,VF⟩:=ht;have ZN:A.in1.handled=none:=hh;unfold Builtin.SmallTypes.nextOf;refine wpAny_bind (wpAny_callSpecial?_slot ty F.slot_tuple_iterator_next (wpAny_call_entry F.slot_tuple_iterator_next ty F.entry_tuple_iterator_next ?_ (F.args_tuple_iterator_next_1 _)));unfold Builtin.«tuple_iterator.__next__»;wp_walk using wpAny_field ho hd (x:=.ref t) rfl,wpAny_field ho hd (x:=.int i 0) rfl,wpAny_seqItems Vi VF;simp only [yG,hx];wp_walk using wpAny_setField ho hd (by simp);simp only [raiseNew];refine wpAny_bind (wpAny_handled ?_);rw [ZN];exact wpAny_bind (wpAny_pure (wpAny_throw (hE _ _ (((Heap.SameBut.update ..).extBut.push _).push _) ⟨_,Heap.get?_push_size _ rfl,rfl⟩)))
end
theorem OQ {prog:Program}{w:World}{A:Around}(hh:A.handled=none)(it t:Addr)(p9:t≠it)(items:Array Value) :
  Draws prog w A it [it,t] items.size (λi v=>items[i]?=some v) (λi h=>h.IsTupleIter it t i/\h.IsTuple t items) where
 live:=λ_ _ st=>let ⟨⟨o,ho,_⟩,_⟩:=st;⟨o,ho⟩
 frame:=λ_ _ _ st hk=>let ⟨⟨o,ho,r⟩,o',o8,r'⟩:=st;⟨⟨o,hk it (by simp) o ho,r⟩,o',hk t (by simp) o' o8,r'⟩
 item:=λi s Q E hi st hQ=>NN st.1 st.2 (Array.getElem?_eq_getElem hi) λh' a b=>hQ _ h' s.toks (Array.getElem?_eq_getElem hi) ⟨a,st.2.extBut b.extBut p9⟩ b
 done:=λs Q E st hE=>sr hh st.1 st.2 (Array.getElem?_eq_none (zB _)) hE
theorem OR {prog:Program}{w:World}{A:Around}(hh:A.handled=none)(it t:Addr)(items:Array Value) :
  Draws prog w A it [it,t] 0 (λ_ _=>False) (λ_ h=>∃ j,h.IsTupleIter it t j/\h.IsTuple t items/\items[j]?=none) where
 live:=λ_ _ st=>let ⟨_,⟨o,ho,_⟩,_⟩:=st;⟨o,ho⟩
 frame:=λ_ _ _ st hk=>let ⟨j,⟨o,ho,r⟩,⟨o',o8,r'⟩,z⟩:=st;⟨j,⟨o,hk it (by simp) o ho,r⟩,⟨o',hk t (by simp) o' o8,r'⟩,z⟩
 item:=λi s Q E hi _ _=>absurd hi (zv _)
 done:=λs Q E st hE=>let ⟨_,a,b,c⟩:=st;sr hh a b c hE
section
variable {prog:Program}{w:World}{A:Around}{E:Value->Shared->Prop}{s:Shared}
theorem uM (l:Addr)(items:Array Value)(o:Obj) :
  Meets (Builtin.«enumerate.__new__» ⟨[.type "enumerate", .ref l],[]⟩) (λ_ R s=>(s.heap.get? l=some o/\s.heap.IsTuple l items) /\
   R (.ok (.ret (.ref (s.heap.push { cls:=.type "tuple_iterator", data:=.fields #[.ref l,.int 0 0] }).objs.size)))
    { s with heap:=(s.heap.push { cls:=.type "tuple_iterator", data:=.fields #[.ref l,.int 0 0] }).push { cls:=.type "enumerate", data:=.fields #[.none,.bool false,.ref s.heap.objs.size,rawInt 0,.none,.none] } }):=
 .of_wp λprog w A R s ⟨⟨hl,hL⟩,h⟩=>by
  obtain ⟨hp,g,d,tk,os⟩:=s;have ZA:=sub_enumerate;wp_walk using wpAny_loadPart' hl;refine wpAny_stack_any λst=>wpAny_pure ?_;split
  ·rename_i c _ _ _ _ _;cases (c == Value.type "enumerate") <;> (wp_walk using wpAny_loadPart' hl,wpAny_pyIter_tuple hL) <;> exact ⟨_,rfl,h⟩
  ·wp_walk using wpAny_loadPart' hl,wpAny_pyIter_tuple hL;exact ⟨_,rfl,h⟩
theorem rG {l:Addr}{items:Array Value}{Q:Value->Shared->Prop}(hL:s.heap.IsTuple l items)
  (h:∀ h',IsEnum h' (s.heap.objs.size + 1) s.heap.objs.size 0 .none->h'.IsTupleIter s.heap.objs.size l 0 ->
   (∀ b o,s.heap.get? b=some o->h'.get? b=some o)->Q (.ref (s.heap.objs.size + 1)) { s with heap:=h' }) :
  wpAny (model prog w) A (call (.type "enumerate") [.ref l]) Q E s:=by
 obtain ⟨o,hl,_⟩:=id hL;refine callType_new F.called_enumerate (by decide) (F.typeCall_enumerate_1 _) (F.newCall_enumerate_1 _) (λobj=>F.args_object_init_2 obj _) F.entry_enumerate_new (uM l items o) ⟨⟨hl,hL⟩,?_⟩;generalize hG:s.heap.push { cls:=.type "tuple_iterator", data:=.fields #[.ref l,.int 0 0] }=G;have hz:G.objs.size=s.heap.objs.size + 1:=by rw [<-hG,Heap.size_push]
 have hi:G.get? s.heap.objs.size=some { cls:=.type "tuple_iterator", data:=.fields #[.ref l,.int 0 0] }:=by rw [<-hG];exact Heap.get?_push_size _ rfl
 have he:=Heap.get?_push_size G (o:={ cls:=.type "enumerate", data:=.fields #[.none,.bool false,.ref s.heap.objs.size,rawInt 0,.none,.none] }) rfl;rw [hz] at he;show _/\_;rw [hz];exact ⟨⟨_,he,rfl⟩,h _ he ⟨_,Heap.get?_push_of_some _ hi,rfl,rfl⟩ λb o x=>Heap.get?_push_of_some _ (by rw [<-hG];exact Heap.get?_push_of_some _ x)⟩
end
def KP (K:PySem.W.Frag)(a:Addr):It:=
 ⟨λi H=>∃ xs x,bC K H a xs/\xs[i]?=some x,λi H y H'=>∃ p x,H p=none/\y=.ref p/\H'=upd H p (.tup [.int i,x])/\∀ xs,bC K H a xs->xs[i]?=some x,λi H=>∃ xs,bC K H a xs/\xs.length<=i⟩
theorem qh {P:Program}{w:World}{K:PySem.W.Frag}{es:List Expr}{k:Nat}{pos:Pos}(a e it:Addr)(p9:e≠it) :
  Turn P w K (.Tuple es k pos) (KP K a) [e,it] e (λi h=>(∃ old,IsEnum h e it i old)/\h.IsTupleIter it a i) where
 mem:=by simp
 obj:=λi h st b hb=>by
  obtain ⟨⟨old,he⟩,o,hi,c,d⟩:=st;rcases zP.mp hb with z | z
  ·subst z;exact ⟨_,he,λv q=>nomatch q⟩
  ·have z':b=it:=by simpa using z
   subst z';exact ⟨o,hi,λv q=>by rw [d] at q;cases q⟩
 keep:=λi h h' st q=>by
  obtain ⟨⟨old,he⟩,o,hi,r⟩:=st;exact ⟨⟨old,q e (by simp) _ he⟩,o,q it (by simp) o hi,r⟩
 item:=by
  intro X hP hw hK hc i aa s σ H E I hf st hg;subst hP hw hK;obtain ⟨xs,x,hq,hx⟩:=hg;obtain ⟨au,rv,p,hz⟩:=I.tuple hq;obtain ⟨u,hu,ru⟩:=rv.get hx;obtain ⟨⟨old,he⟩,hi⟩:=st;obtain ⟨e0,e1,e2,e3,e4,e5⟩:=hf e (by simp);obtain ⟨f0,f1,f2,f3,f4,f5⟩:=hf it (by simp);have el:e < s.heap.objs.size:=Heap.lt_size he;have il:it < s.heap.objs.size:=let ⟨_,z,_⟩:=hi;Heap.lt_size z;have ht:s.heap.IsTuple a au.toArray:=p;have hal:a < s.heap.objs.size:=let ⟨_,z,_⟩:=ht;Heap.lt_size z;have Xs:a≠it:=λz=>by
   obtain ⟨o1,z1,c1,_⟩:=ht;obtain ⟨o2,z2,c2,_⟩:=hi;rw [z,z2] at z1;cases z1;rw [c2] at c1;exact absurd (Value.type.inj c1) (by decide)
  have Z0:e ∉ [it,a]:=λz=>by
   rcases zP.mp z with z | z
   ·exact p9 z
   ·have z':e=a:=by simpa using z
    obtain ⟨o1,z1,c1,_⟩:=ht;rw [<-z',he] at z1;cases z1;exact absurd (Value.type.inj c1) (by decide)
  refine wpAny_pyNext_enum_itemD (OQ (A:=X.A.in1) (I.ok.hd hc) it a Xs au.toArray) he ⟨hi,ht⟩ (by simpa using (zC.mp hu).1) p9 Z0 λu1 h1 tk Zw ho Ve hT hsz hk=>?_;have eu:u=u1:=by
   have q:au.toArray[i]?=some u:=by simpa using hu
   have QM:au.toArray[i]?=some u1:=Zw;rw [q] at QM;exact Option.some.inj QM
  subst eu;have Vy:=Ve.1;refine ⟨_,rfl,?_⟩;refine wpAny_letOwnedTupleGo_enum ho λh2 VE LY=>?_;have qU:Heap.SameBut e h1 h2:=LY;have jZ:∀ b o,b≠e->b≠it->s.heap.get? b=some o->h2.get? b=some o:=λb o hb iJ q=>qU.extBut b o hb (hk b o hb iJ q);have Rg:h2.get? s.heap.objs.size=some { cls:=.type "tuple", data:=.seq #[.int i tk,u] }:=qU.extBut _ _ (yT el) hT;have nT:H s.heap.objs.size=none:=I.br.fresh (zB _);refine ⟨.ref s.heap.objs.size,upd H s.heap.objs.size (.tup [.int i,x]),?_,rfl,⟨_,x,nT,rfl,rfl,λys hy=>by rw [I.lO hy hq];exact hx⟩,⟨⟨u,by simpa using VE⟩,?_⟩,λb hb=>?_⟩
  ·have m5:∀ b,b ∉ [e,it]->b≠e/\b≠it:=λb hb=>⟨λz=>hb (by simp [z]),λz=>hb (by simp [z])⟩;refine Inv.step (s:=s) (h':=h2) (g':=s.gens) (d':=s.drawn) (t':=tk + 1) (ch:=[e,it]) I (λb hb=>?_) (λb o _ _ hb q _=>jZ b o (m5 b hb).1 (m5 b hb).2 q) (λb o _ _ hb q _=>⟨o.slots,jZ b o (m5 b hb).1 (m5 b hb).2 q⟩)
    (λb o _ q n=>by rw [xR (zU (Heap.lt_size q))];exact n) (λb o hb q=>⟨o,jZ b o (m5 b hb).1 (m5 b hb).2 q⟩)
    (λb ys q=>by rw [xR (xQ q nT)];exact q) (λb o v q=>by rw [xR (xQ q nT)];exact q) (λb ps q=>⟨#[],by rw [xR (xQ q nT),q];simp⟩)
    (λm hm=>by
     obtain ⟨o,lD,ep,q,r⟩:=hm;exact ⟨o,lD,ep,jZ _ o (Ne.symm e1) (Ne.symm f1) q,r⟩) (λb v q=>?_) I.bare
   ·rcases zP.mp hb with z | z
    ·subst z;exact ⟨e3,e1,e4,e5⟩
    ·have z':b=it:=by simpa using z
     subst z';exact ⟨f3,f1,f4,f5⟩
   ·by_cases hb:b=s.heap.objs.size
    ·subst hb;rw [xN] at q;cases q;exact ⟨⟨by show 2<=sizeLine;rw [sizeLine_eq];decide,λob e=>by rw [Rg] at e;cases e;rfl⟩,[.int i tk,u],.cons ⟨_,rfl⟩ (.cons ru .nil),⟨_,Rg,rfl,_,rfl⟩⟩
    ·rw [xR hb] at q;refine (I.br b v q).gA (λc ob hc qc=>jZ c ob ?_ ?_ qc) (λc qc=>by rw [xR (xQ qc nT)];exact qc) λc ys qc=>by rw [xR (xQ qc nT)];exact qc
     ·rcases hc with z | z
      ·subst z;exact xQ q e0
      ·exact xQ z e0
     ·rcases hc with z | z
      ·subst z;exact xQ q f0
      ·exact xQ z f0
  ·obtain ⟨o,q,r⟩:=Vy;exact ⟨o,qU.extBut it o (Ne.symm p9) q,r⟩
  ·rcases zP.mp hb with z | z
   ·subst z;rw [xR (zU el)];exact e0
   ·have z':b=it:=by simpa using z
    subst z';rw [xR (zU il)];exact f0
 done:=by
  intro X hP hw hK hc i aa s σ H E I hf st hg;subst hP hw hK;obtain ⟨xs,hq,hx⟩:=hg;obtain ⟨au,rv,p,hz⟩:=I.tuple hq;obtain ⟨⟨old,he⟩,hi⟩:=st;obtain ⟨f0,f1,f2,f3,f4,f5⟩:=hf it (by simp);have hl:=rv.length;have ht:s.heap.IsTuple a au.toArray:=p;have Xs:a≠it:=λz=>by
   obtain ⟨o1,z1,c1,_⟩:=ht;obtain ⟨o2,z2,c2,_⟩:=hi;rw [z,z2] at z1;cases z1;rw [c2] at c1;exact absurd (Value.type.inj c1) (by decide)
  exact wpAny_pyNext_enum_endD (OR (A:=X.A.in1) (I.ok.hd hc) it a au.toArray) he ⟨i,hi,ht,by simp;omega⟩ λh' eb=>⟨rfl,I.turned (t':=s.toks) (λb o hb e=>eb b o hb e) f0 f1 f3 f4 f5⟩
 self:=λ_ _ _ _ _ st h=>let ⟨⟨_,he⟩,_⟩:=st;wpAny_pyIter_enum he h
def Oa (K:PySem.W.Frag)(ta:TA):TI:=fun σ H R=>ta σ H λvs H1=>∃ a,vs=[.ref a]/\(∃ xs,bC K H1 a xs)/\R (KP K a) H1
theorem wz {X:Cx}{a:Expr}{ta:TA}{p pos gF:Pos}{es:List Expr}{k:Nat}{K:PySem.W.Frag}(hK:X.K=K)(hg:Gl X "enumerate")(hm:X.mg "enumerate" = none)(ha:PA X [a] ta)(hs:starEach [a] X.env=[(false,eval a X.env)]:=by rfl) :
  PI X (.Tuple es k gF) (.Call (.Name "enumerate" p) [a] [] pos) (Oa K ta):=by
 subst hK;intro aa s σ H R I h;refine Call_ (cG I hg hm boot_enumerate (zi (aX (ha pos aa s σ H _ I h) λus s1 ⟨vs,H1,I1,r1,q1⟩=>?_) hs rfl));obtain ⟨l,e,⟨xs,hq⟩,q⟩:=q1;subst e;cases r1 with
 | cons r rr=>
  cases rr;cases r;obtain ⟨au,rv,p,hz⟩:=I1.tuple hq;refine rG (show s1.heap.IsTuple l au.toArray from p) λh' he hi hk=>?_;refine wpAny_pyIter_enum he ?_;have I2:Inv X aa σ H1 { s1 with heap:=h' }:=I1.kept (t':=s1.toks) hk;refine ⟨s1.heap.objs.size + 1,[s1.heap.objs.size + 1,s1.heap.objs.size],_,_,H1,rfl,I2,qh l _ _ (Nat.succ_ne_self _),⟨⟨_,he⟩,hi⟩,λb hb=>?_,q⟩;have iJ:s1.heap.objs.size<=b:=by
   rcases zP.mp hb with z | z
   ·subst z;exact z8 _
   ·have z':b=s1.heap.objs.size:=by simpa using z
    subst z';exact zB _
  exact I1.nj iJ (I1.br.fresh iJ)
def KQ (K:PySem.W.Frag)(a:Addr):It:=
 ⟨λi H=>∃ xs x,aJ K H a xs/\xs[i]?=some x,λi H y H'=>∃ p x,H p=none/\y=.ref p/\H'=upd H p (.tup [.int i,x])/\∀ xs,aJ K H a xs->xs[i]?=some x,λi H=>∃ xs,aJ K H a xs/\xs.length<=i⟩
theorem qi {P:Program}{w:World}{K:PySem.W.Frag}{es:List Expr}{k:Nat}{pos:Pos}(a e it:Addr)(p9:e≠it) :
  Turn P w K (.Tuple es k pos) (KQ K a) [e,it] e (λi h=>(∃ old,IsEnum h e it i old)/\h.IsListIter it a i) where
 mem:=by simp
 obj:=λi h st b hb=>by
  obtain ⟨⟨old,he⟩,o,hi,c,d⟩:=st;rcases zP.mp hb with z | z
  ·subst z;exact ⟨_,he,λv q=>nomatch q⟩
  ·have z':b=it:=by simpa using z
   subst z';exact ⟨o,hi,λv q=>by rw [d] at q;cases q⟩
 keep:=λi h h' st q=>by
  obtain ⟨⟨old,he⟩,o,hi,r⟩:=st;exact ⟨⟨old,q e (by simp) _ he⟩,o,q it (by simp) o hi,r⟩
 item:=by
  intro X hP hw hK hc i aa s σ H E I hf st hg;subst hP hw hK;obtain ⟨xs,x,hq,hx⟩:=hg;obtain ⟨au,rv,p,hz⟩:=I.list hq;obtain ⟨u,hu,ru⟩:=rv.get hx;obtain ⟨⟨old,he⟩,hi⟩:=st;obtain ⟨e0,e1,e2,e3,e4,e5⟩:=hf e (by simp);obtain ⟨f0,f1,f2,f3,f4,f5⟩:=hf it (by simp);have el:e < s.heap.objs.size:=Heap.lt_size he;have il:it < s.heap.objs.size:=let ⟨_,z,_⟩:=hi;Heap.lt_size z;refine wpAny_pyNext_enum_item he hi p.isList (x:=u) (by simpa using hu) p9 λh1 ho Vy hT hsz hk=>?_;obtain ⟨tk,Sd⟩:∃ tk,tk=s.toks:=⟨_,rfl⟩;rw [<-Sd] at hT ⊢;refine ⟨_,rfl,?_⟩;refine wpAny_letOwnedTupleGo_enum ho λh2 VE LY=>?_;have qU:Heap.SameBut e h1 h2:=LY;have jZ:∀ b o,b≠e->b≠it->s.heap.get? b=some o->h2.get? b=some o:=λb o hb iJ q=>qU.extBut b o hb (hk b o hb iJ q);have Rg:h2.get? s.heap.objs.size=some { cls:=.type "tuple", data:=.seq #[.int i tk,u] }:=qU.extBut _ _ (yT el) hT;have nT:H s.heap.objs.size=none:=I.br.fresh (zB _);refine ⟨.ref s.heap.objs.size,upd H s.heap.objs.size (.tup [.int i,x]),?_,rfl,⟨_,x,nT,rfl,rfl,λys hy=>by rw [I.oY hy hq];exact hx⟩,⟨⟨u,by simpa using VE⟩,?_⟩,λb hb=>?_⟩
  ·have m5:∀ b,b ∉ [e,it]->b≠e/\b≠it:=λb hb=>⟨λz=>hb (by simp [z]),λz=>hb (by simp [z])⟩;refine Inv.step (s:=s) (h':=h2) (g':=s.gens) (d':=s.drawn) (t':=tk + 1) (ch:=[e,it]) I (λb hb=>?_) (λb o _ _ hb q _=>jZ b o (m5 b hb).1 (m5 b hb).2 q) (λb o _ _ hb q _=>⟨o.slots,jZ b o (m5 b hb).1 (m5 b hb).2 q⟩)
    (λb o _ q n=>by rw [xR (zU (Heap.lt_size q))];exact n) (λb o hb q=>⟨o,jZ b o (m5 b hb).1 (m5 b hb).2 q⟩)
    (λb ys q=>by rw [xR (xQ q nT)];exact q) (λb o v q=>by rw [xR (xQ q nT)];exact q) (λb ps q=>⟨#[],by rw [xR (xQ q nT),q];simp⟩)
    (λm hm=>by
     obtain ⟨o,lD,ep,q,r⟩:=hm;exact ⟨o,lD,ep,jZ _ o (Ne.symm e1) (Ne.symm f1) q,r⟩) (λb v q=>?_) I.bare
   ·rcases zP.mp hb with z | z
    ·subst z;exact ⟨e3,e1,e4,e5⟩
    ·have z':b=it:=by simpa using z
     subst z';exact ⟨f3,f1,f4,f5⟩
   ·by_cases hb:b=s.heap.objs.size
    ·subst hb;rw [xN] at q;cases q;exact ⟨⟨by show 2<=sizeLine;rw [sizeLine_eq];decide,λob e=>by rw [Rg] at e;cases e;rfl⟩,[.int i tk,u],.cons ⟨_,rfl⟩ (.cons ru .nil),⟨_,Rg,rfl,_,rfl⟩⟩
    ·rw [xR hb] at q;refine (I.br b v q).gA (λc ob hc qc=>jZ c ob ?_ ?_ qc) (λc qc=>by rw [xR (xQ qc nT)];exact qc) λc ys qc=>by rw [xR (xQ qc nT)];exact qc
     ·rcases hc with z | z
      ·subst z;exact xQ q e0
      ·exact xQ z e0
     ·rcases hc with z | z
      ·subst z;exact xQ q f0
      ·exact xQ z f0
  ·obtain ⟨o,q,r⟩:=Vy;exact ⟨o,qU.extBut it o (Ne.symm p9) q,r⟩
  ·rcases zP.mp hb with z | z
   ·subst z;rw [xR (zU el)];exact e0
   ·have z':b=it:=by simpa using z
    subst z';rw [xR (zU il)];exact f0
 done:=by
  intro X hP hw hK hc i aa s σ H E I hf st hg;subst hP hw hK;obtain ⟨xs,hq,hx⟩:=hg;obtain ⟨au,rv,p,hz⟩:=I.list hq;obtain ⟨⟨old,he⟩,hi⟩:=st;obtain ⟨f0,f1,f2,f3,f4,f5⟩:=hf it (by simp);have hl:=rv.length;exact wpAny_pyNext_enum_end (I.ok.hd hc) he hi p.isList (by simp;omega) λh' eb=>⟨rfl,I.turned (t':=s.toks) (λb o hb e=>eb b o hb e) f0 f1 f3 f4 f5⟩
 self:=λ_ _ _ _ _ st h=>let ⟨⟨_,he⟩,_⟩:=st;wpAny_pyIter_enum he h
def Ob (K:PySem.W.Frag)(ta:TA):TI:=fun σ H R=>ta σ H λvs H1=>∃ a,vs=[.ref a]/\(∃ xs,aJ K H1 a xs)/\R (KQ K a) H1
theorem jW {X:Cx}{a:Expr}{ta:TA}{p pos gF:Pos}{es:List Expr}{k:Nat}{K:PySem.W.Frag}(hK:X.K=K)(hg:Gl X "enumerate")(hm:X.mg "enumerate" = none)(ha:PA X [a] ta)(hs:starEach [a] X.env=[(false,eval a X.env)]:=by rfl) :
  PI X (.Tuple es k gF) (.Call (.Name "enumerate" p) [a] [] pos) (Ob K ta):=by
 subst hK;intro aa s σ H R I h;refine Call_ (cG I hg hm boot_enumerate (zi (aX (ha pos aa s σ H _ I h) λus s1 ⟨vs,H1,I1,r1,q1⟩=>?_) hs rfl));obtain ⟨l,e,⟨xs,hq⟩,q⟩:=q1;subst e;cases r1 with
 | cons r rr=>
  cases rr;cases r;obtain ⟨au,rv,p,hz⟩:=I1.list hq;refine call_enumerate_list p.isList λh' he hi hsz hk=>?_;refine wpAny_pyIter_enum he ?_;have I2:Inv X aa σ H1 { s1 with heap:=h' }:=I1.kept (t':=s1.toks) hk;refine ⟨s1.heap.objs.size + 1,[s1.heap.objs.size + 1,s1.heap.objs.size],_,_,H1,rfl,I2,qi l _ _ (Nat.succ_ne_self _),⟨⟨_,he⟩,hi⟩,λb hb=>?_,q⟩;have iJ:s1.heap.objs.size<=b:=by
   rcases zP.mp hb with z | z
   ·subst z;exact z8 _
   ·have z':b=s1.heap.objs.size:=by simpa using z
    subst z';exact zB _
  exact I1.nj iJ (I1.br.fresh iJ)
def lN (H:Hp):V->Option String
 | .bG=>some "NoneType"
 | .bl _=>some "bool"
 | .int _=>some "int"
 | .str _=>some "str"
 | .ref a=>match H a with
  | some (.lst _)=>some "list"
  | some (.ni _ (.lst _))=>some "list"
  | some (.tup _)=>some "tuple"
  | some (.dK _)=>some "dict"
  | _=>none
 | _=>none
theorem M7 {K:PySem.W.Frag}{H:Hp}{x:V}{t:String}(h:lN H x=some t):i8 K H x (.type t):=by
 cases x with
 | bG=>cases h;exact .bG
 | bl b=>cases h;exact .bl b
 | int i=>cases h;exact .int i
 | str x=>cases h;exact .str x
 | ref a=>
  unfold lN at h;dsimp only at h;split at h
  ·rename_i e;cases h;exact .lst e
  ·rename_i e;cases h;exact .ni e
  ·rename_i e;cases h;exact .tup e
  ·rename_i e;cases h;exact .dK e
  ·cases h
 | _=>cases h
theorem jA {H:Hp}{x:V}{t:String}(h:lN H x=some t):t = "NoneType" \/ t = "bool" \/ t = "int" \/ t = "str" \/ t = "list" \/ t = "tuple" \/ t = "dict" := by
 cases x with
 | ref a=>
  unfold lN at h;dsimp only at h;split at h <;> cases h <;> simp
 | _=>cases h <;> simp
def JV (t T:String):Bool:=t == T || (t == "bool" && T == "int")
theorem NZ {K:PySem.W.Frag}{t T:String}(h:t = "NoneType" \/ t = "bool" \/ t = "int" \/ t = "str" \/ t = "list" \/ t = "tuple" \/ t = "dict")(hT:T = "int" \/ T = "bool" \/ T = "list" \/ T = "tuple"):PySem.W.kitOne K (.type t) (.type T)=some (JV t T):=by rcases h with rfl | rfl | rfl | rfl | rfl | rfl | rfl <;> rcases hT with rfl | rfl | rfl | rfl <;> first | rfl | decide +kernel
section
variable {X:Cx}
theorem wH:dW X (.builtin "isinstance") (λxs H Q=>∃ x t T,xs=[x,.ty T]/\lN H x=some t/\(T = "int" \/ T = "bool" \/ T = "list" \/ T = "tuple")/\Q (.bl (JV t T)) H):=by intro aa s σ H xs us Q I r h;obtain ⟨x,t,T,rfl,ht,hT,q⟩:=h;obtain ⟨u,w',rfl,r1,r2⟩:=vals2 r;cases r2;exact uB I r1 (M7 ht) (NZ (jA ht) hT) λtk=>⟨.bl _,H,I.tok tk,rfl,q⟩
theorem we:gb X (binaryOp .FloorDiv) (rI (λ_ j=>0 < j/\j < 2 ^ 200) λi j=>.int (i / j)):=Qk λi j _ _ _ _ _ hc q=>by
 have e:i.fdiv j=i / j:=Int.fdiv_eq_ediv_of_nonneg _ (by omega);rw [<-e] at q;refine floordiv_int (by omega) q (.inl (PyProof.noPylong_of_log2 ?_));have h0:j.natAbs≠0:=by omega
 have h1:j.natAbs < 2 ^ 200:=by omega
 have:=(Nat.log2_lt h0).mpr h1;omega
theorem JA (hu:X.A.units + 64 < cLine):gb X (compareOp .NotEq) (λx y H Q=>∃ a b xs,x=.ref a/\y=.ref b/\aJ X.K H a xs/\aJ X.K H b []/\Q (.bl (!xs.isEmpty)) H):=by
 intro aa s σ H x y v u Q I rx ry h;obtain ⟨a,b,xs,rfl,rfl,ha,hb,q⟩:=h;cases rx;cases ry;obtain ⟨au,r,p,_⟩:=I.list ha;obtain ⟨gK,r2,p2,_⟩:=I.list hb;cases r2;cases r with
 | nil=>exact SeqAt.RcNeAt.lists (e:=λ_=>true) p.isList p2.isList rfl (by omega) (λj h1=>absurd h1 (zv _)) _ _ _ _ ⟨.bl _,H,I,rfl,q⟩
 | cons r1 rr=>exact SeqAt.RcNeAt.lists_lengths p.isList p2.isList (by simp) (by omega) _ _ _ _ ⟨.bl _,H,I,rfl,q⟩
theorem um (hu:X.A.units + 64 < cLine):gb X (compareOp .Eq) (λx y H Q=>∃ a b xs,x=.ref a/\y=.ref b/\bC X.K H a xs/\bC X.K H b []/\Q (.bl xs.isEmpty) H):=by
 intro aa s σ H x y v u Q I rx ry h;obtain ⟨a,b,xs,rfl,rfl,ha,hb,q⟩:=h;cases rx;cases ry;obtain ⟨au,r,p,_⟩:=I.tuple ha;obtain ⟨gK,r2,p2,_⟩:=I.tuple hb;cases r2;have q':Q (.bl ((List.range (min au.toArray.size ([]:List Value).toArray.size)).all (λ_=>true) && au.toArray.size == ([]:List Value).toArray.size)) H:=by
  cases r with
  | nil=>simpa using q
  | cons r1 rr=>simpa using q
 exact SeqAt.RcAt.tuples (e:=λ_=>true) p p2 (by omega) (λj h1 h2=>absurd h2 (zv _)) _ _ _ _ ⟨.bl _,H,I,rfl,q'⟩
variable {K:PySem.W.Frag}
theorem xv {es:List Expr}{k:Nat}{t:MS}{n:Nat}{pos:Pos}(hK:X.K=K)(hc:X.calm=true)(h:Rz X es t)
  (hn:(assignEach es X.env).length=n:=by rfl) (LX:(assignEach es X.env).findIdx? (·.1)=none:=by rfl):PG X (.Tuple es k pos) (uI K n t):=by subst hK;exact NF hc h hn LX
theorem wf {tg l:Expr}{tl:TE}(hK:X.K=K)(hl:PE X l tl):PI X tg l (ME K tl):=by subst hK;exact Lz hl
theorem jV {tg l:Expr}{tl:TE}(hK:X.K=K)(hl:PE X l tl):PI X tg l (QF K tl):=by subst hK;exact ND hl
theorem xW (hK:X.K=K):RE X (qG K):=by subst hK;exact LP
theorem xj (hK:X.K=K):RE X (uc K):=by subst hK;exact N6
theorem gX (hK:X.K=K):Rw X (Qg K):=by subst hK;exact Lo
theorem rX (hK:X.K=K):Rw X (Qe K):=by subst hK;exact Nv
theorem cu (hK:X.K=K):gb X (compareOp .In) (Uv K false):=by subst hK;exact uh
theorem xX (hK:X.K=K):dW X (.builtin "len") (λxs H Q=>∃ p ys,xs=[.ref p]/\(aJ K H p ys\/bC K H p ys)/\Q (.int ys.length) H):=by subst hK;exact nH
theorem lG (hK:X.K=K):dW X (.type "list") (λxs H Q=>∃ p ys,xs=[.ref p]/\(aJ K H p ys\/bC K H p ys)/\∀ l,H l=none->Q (.ref l) (upd H l (.lst ys))):=by subst hK;exact nG
end
theorem J9 {X:Cx}{K:PySem.W.Frag}(hK:X.K=K):RA X (λo i H Q=>∃ p xs v,∃ k:Nat,o=.ref p/\i=.int k/\aJ K H p xs/\xs[k]?=some v/\Q v H):=by subst hK;intro aa s σ H o i ov iv Q I ro ri h;obtain ⟨p,xs,v,k,rfl,rfl,hq,hv,q⟩:=h;cases ro;obtain ⟨t,rfl⟩:=ri;obtain ⟨au,r,pl,hz⟩:=I.list hq;obtain ⟨w,ew,t8⟩:=r.get hv;have hk:k < xs.length:=(zC.mp hv).1;have hn:=iW;exact wpAny_getItem_list pl.isList (by omega) (by omega) (by simpa using ew) ⟨v,H,I,t8,q⟩
end L2
namespace aU
open PySem PySem.W PyProof.Rows
def fj {α:Type}(n:Nat)(c:Nat->Nat->Bool):KasT α->(α->Prop)->Prop
 | .ret a,P=>P a
 | .ask i j k,P=>i < n/\j < n/\fj n c (k (c i j)) P
theorem fj.bind {α β:Type}{n:Nat}{c:Nat->Nat->Bool}{f:α->KasT β}{P:β->Prop}:∀ (t:KasT α),fj n c t (λa=>fj n c (f a) P)->fj n c (t.bind f) P
 | .ret a,h=>h
 | .ask i j k,h=>⟨h.1,h.2.1,fj.bind (k (c i j)) h.2.2⟩
theorem fj.mono {α:Type}{n:Nat}{c:Nat->Nat->Bool}{P P':α->Prop}(hp:∀ a,P a->P' a):∀ (t:KasT α),fj n c t P->fj n c t P'
 | .ret a,h=>hp a h
 | .ask i j k,h=>⟨h.1,h.2.1,fj.mono hp (k (c i j)) h.2.2⟩
theorem fj.wp {α:Type}{n:Nat}{c:Nat->Nat->Bool}{P:α->Prop}{Q:α->Shared->Prop}{cmp:Nat->Nat->(Bool->Shared->Prop)->Shared->Prop}{s:Shared}
  (hc:∀ i j C,i < n->j < n->C (c i j) s->cmp i j C s) (hq:∀ a,P a->Q a s):∀ (t:KasT α),fj n c t P->t.kasWp cmp Q s
 | .ret a,h=>hq a h
 | .ask i j k,h=>hc i j _ h.1 h.2.1 (fj.wp hc hq (k (c i j)) h.2.2)
section
variable {n:Nat}{f:Nat->Int}
def at' (p:Array Nat)(i:Nat):Nat:=(p[i]?).getD 0
theorem getD_at (p:Array Nat)(i:Nat):p.getD i 0=at' p i:=by unfold at';simp
def g (f:Nat->Int)(p:Array Nat)(i:Nat):Int:=f (at' p i)
def Pm (n:Nat)(p:Array Nat):Prop:=p.Perm (List.toArray (List.range n))
theorem Pm.size {p:Array Nat}(h:Pm n p):p.size=n:=by rw [Array.Perm.size_eq h];simp
theorem Pm.lt {p:Array Nat}(h:Pm n p){i:Nat}(hi:i < n):at' p i < n:=by
 have hs:=h.size;have e:at' p i=p[i]'(by omega):=by unfold at';simp [hs,hi]
 have hm:p[i]'(by omega)∈p:=Array.getElem_mem _;have pe:=(Array.Perm.mem_iff h).mp hm;rw [e];simpa using pe
theorem Pm.rev {p:Array Nat}(h:Pm n p)(i j:Nat):Pm n (kas_rev p i j):=(mirror_perm p i j _).trans h
theorem Pm.bub {p:Array Nat}(h:Pm n p)(k d:Nat):Pm n (bubble p k d):=(bubble_perm p k d).trans h
theorem sE {p:Array Nat}{i j:Nat}(hj:j<=p.size)(k:Nat):g f (kas_rev p i j) k=if i<=k/\k < j then g f p (i + j - 1 - k) else g f p k:=by unfold g at' kas_rev;rw [getElem?_mirror_all hj k];split <;> rfl
theorem MJ {p:Array Nat}{src d:Nat}(hs:src < p.size)(hd:d<=src)(k:Nat):g f (bubble p src d) k=if k=src - d then g f p src else if src - d < k/\k<=src then g f p (k - 1) else g f p k:=by
 unfold g at';rw [getElem?_bubble hs d hd k];split
 ·rfl
 ·split <;> rfl
def Up (f:Nat->Int)(p:Array Nat)(k:Nat):Prop:=∀ i j,i<=j->j < k->g f p i<=g f p j
def Dn (f:Nat->Int)(p:Array Nat)(k:Nat):Prop:=∀ i j,i<=j->j < k->g f p j<=g f p i
def cf (f:Nat->Int)(i j:Nat):Bool:=decide (f i < f j)
theorem rK {p:Array Nat}(hp:Pm n p):∀ (q m:Nat),1<=m->m + q<=n->Up f p m->fj n (cf f) (kas_asc p q m) (λm'=>m<=m'/\m'<=m + q/\Up f p m'/\(m' < m + q->g f p m' < g f p (m' - 1)))
 | 0,m,_,_,hu=>⟨zB _,zB _,hu,λh=>absurd h (zy _)⟩
 | q + 1,m,h1,h2,hu=>by
  unfold kas_asc;refine ⟨by rw [getD_at];exact hp.lt (by omega),by rw [getD_at];exact hp.lt (by omega),?_⟩;rw [getD_at,getD_at];by_cases hc:g f p m < g f p (m - 1)
  ·have e:cf f (at' p m) (at' p (m - 1))=true:=decide_eq_true hc;rw [e];dsimp only;rw [if_pos rfl];exact ⟨zB _,by omega,hu,λ_=>hc⟩
  ·have e:cf f (at' p m) (at' p (m - 1))=false:=decide_eq_false hc;rw [e];dsimp only;rw [if_neg zK];refine fj.mono (λm' h=>⟨by omega,by omega,h.2.2.1,λz=>h.2.2.2 (by omega)⟩) _ (rK hp q (m + 1) (by omega) (by omega) λi j pA hj=>?_);by_cases Oo:j < m
   ·exact hu i j pA Oo
   ·have ej:j=m:=by omega
    subst ej;by_cases hi:i=j
    ·subst hi;omega
    ·have:=hu i (j - 1) (by omega) (by omega);omega
def SD (f:Nat->Int)(p:Array Nat)(m q:Nat):Prop:=∀ i,m<=i + (q + 1)->i < m->g f p i=g f p (m - 1)
theorem jT {p:Array Nat}(hp:Pm n p){m q:Nat}(hm:m<=n)(hq:q + 1<=m)(hb:SD f p m q)(k:Nat):g f (kas_rev p (m - (q + 1)) m) k=g f p k:=by
 rw [sE (by rw [hp.size];exact hm)];split
 ·rename_i h;rw [hb _ (by omega) (by omega),hb k (by omega) (by omega)]
 ·rfl
theorem nB:∀ (t:Nat) (p:Array Nat) (m q:Nat),Pm n p->1<=m->m + t<=n->q + 1<=m->Dn f p m->SD f p m q ->
  fj n (cf f) (kas_desc t p m q) (λr=>Pm n r.1/\m<=r.2.1/\r.2.1<=n/\r.2.2 + 1<=r.2.1/\Dn f r.1 r.2.1/\SD f r.1 r.2.1 r.2.2)
 | 0,p,m,q,hp,h1,h2,h3,hd,hb=>⟨hp,zB _,by simpa using h2,h3,hd,hb⟩
 | t + 1,p,m,q,hp,h1,h2,h3,hd,hb=>by
  unfold kas_desc;refine ⟨by rw [getD_at];exact hp.lt (by omega),by rw [getD_at];exact hp.lt (by omega),?_⟩;rw [getD_at,getD_at];by_cases hc:g f p m < g f p (m - 1)
  ·have e:cf f (at' p m) (at' p (m - 1))=true:=decide_eq_true hc;rw [e];dsimp only;rw [if_pos rfl];have step:∀ p':Array Nat,Pm n p'->(∀ k,g f p' k=g f p k)->fj n (cf f) (kas_desc t p' (m + 1) 0) (λr=>Pm n r.1/\m<=r.2.1/\r.2.1<=n/\r.2.2 + 1<=r.2.1/\Dn f r.1 r.2.1/\SD f r.1 r.2.1 r.2.2):=λp' Se hg=>by
    refine fj.mono (λr h=>⟨h.1,by omega,h.2.2⟩) _ (nB t p' (m + 1) 0 Se (by omega) (by omega) (by omega) (λi j pA hj=>?_) λi hi f9=>?_)
    ·rw [hg,hg];by_cases Oo:j < m
     ·exact hd i j pA Oo
     ·have ej:j=m:=by omega
      subst ej;by_cases hi:i=j
      ·subst hi;omega
      ·have:=hd i (j - 1) (by omega) (by omega);omega
    ·have:i=m + 1 - 1:=by omega
     rw [this]
   split
   ·exact step _ (hp.rev _ _) (jT hp (by omega) h3 hb)
   ·exact step _ hp λ_=>rfl
  ·have e:cf f (at' p m) (at' p (m - 1))=false:=decide_eq_false hc;rw [e];dsimp only;rw [if_neg zK];refine ⟨hp.lt (by omega),hp.lt (by omega),?_⟩;by_cases Py:g f p (m - 1) < g f p m
   ·have e2:cf f (at' p (m - 1)) (at' p m)=true:=decide_eq_true Py;rw [e2];dsimp only;rw [if_pos rfl];exact ⟨hp,zB _,by show m<=n;omega,h3,hd,hb⟩
   ·have e2:cf f (at' p (m - 1)) (at' p m)=false:=decide_eq_false Py;rw [e2];dsimp only;rw [if_neg zK];have eq:g f p m=g f p (m - 1):=by omega
    refine fj.mono (λr h=>⟨h.1,by omega,h.2.2⟩) _ (nB t p (m + 1) (q + 1) hp (by omega) (by omega) (by omega) (λi j pA hj=>?_) λi hi f9=>?_)
    ·by_cases Oo:j < m
     ·exact hd i j pA Oo
     ·have ej:j=m:=by omega
      subst ej;by_cases hi:i=j
      ·subst hi;omega
      ·have:=hd i (j - 1) (by omega) (by omega);omega
    ·rw [show m + 1 - 1=m from rfl];by_cases Sg:i=m
     ·rw [Sg]
     ·rw [hb i (by omega) (by omega),eq]
theorem oh {p:Array Nat}{m:Nat}(hp:Pm n p)(h1:1<=m)(hm:m<=n)(hd:Dn f p m):fj n (cf f) (kas_tail3 m n p) (λr=>Pm n r.2/\r.1<=n/\1<=r.1/\Up f r.2 r.1):=by unfold kas_tail3;have Se:=hp.rev 0 m;refine fj.bind _ (fj.mono (λm' h=>⟨Se,by omega,by omega,h.2.2.1⟩) _ (rK Se (n - m) m h1 (by omega) λi j pA hj=>?_));rw [sE (by rw [hp.size];exact hm),sE (by rw [hp.size];exact hm),if_pos ⟨by omega,by omega⟩,if_pos ⟨by omega,by omega⟩];exact hd _ _ (by omega) (by omega)
theorem ji {p:Array Nat}{m:Nat}(hp:Pm n p)(h1:1<=m)(hm:m < n)(hd:Dn f p (m + 1)):fj n (cf f) (kas_descPart m n p) (λr=>Pm n r.2/\r.1<=n/\1<=r.1/\Up f r.2 r.1):=by
 unfold kas_descPart;refine fj.bind _ (fj.mono (λr h=>?_) _ (nB (n - (m + 1)) p (m + 1) 0 hp (by omega) (by omega) (by omega) hd λi hi f9=>by rw [show i=m + 1 - 1 by omega]));obtain ⟨a1,a2,a3,a4,a5,a6⟩:=h;split
 ·exact oh (a1.rev _ _) (by omega) a3 λi j pA hj=>by
   rw [jT a1 a3 a4 a6,jT a1 a3 a4 a6];exact a5 i j pA hj
 ·exact oh a1 (by omega) a3 a5
theorem Ku {p:Array Nat}(hn:1<=n)(hp:Pm n p):fj n (cf f) (kas_count n p) (λr=>Pm n r.2/\r.1<=n/\1<=r.1/\Up f r.2 r.1):=by
 unfold kas_count;refine fj.bind _ (fj.mono (λm h=>?_) _ (rK hp (n - 1) 1 (zB _) (by omega) λi j pA hj=>by rw [show i=j by omega];omega));obtain ⟨a1,a2,a3,a4⟩:=h;split
 ·exact ⟨hp,by omega,a1,a3⟩
 ·rename_i p9;have cY:m < n:=by
   have:¬ m=n:=by simpa using p9
   omega
  have a4':=a4 (by omega);split
  ·rename_i hm1;refine ⟨by rw [getD_at];exact hp.lt (by omega),by rw [getD_at];exact hp.lt (by omega),?_⟩;rw [getD_at,getD_at];by_cases hc:g f p 0 < g f p (m - 1)
   ·have e:cf f (at' p 0) (at' p (m - 1))=true:=decide_eq_true hc;rw [e];dsimp only;rw [if_pos rfl];exact ⟨hp,by omega,a1,a3⟩
   ·have e:cf f (at' p 0) (at' p (m - 1))=false:=decide_eq_false hc;rw [e];dsimp only;rw [if_neg zK];have all:∀ k,k < m->g f p k=g f p 0:=λk hk=>by
     have:=a3 0 k (by omega) hk;have:=a3 k (m - 1) (by omega) (by omega);omega
    have gr:∀ k,g f (kas_rev p 0 m) k=g f p k:=λk=>by
     rw [sE (by rw [hp.size];omega)];split
     ·rw [all _ (by omega),all k (by omega)]
     ·rfl
    refine ji (hp.rev _ _) a1 cY λi j pA hj=>?_;rw [gr,gr];by_cases Oo:j < m
    ·rw [all i (by omega),all j Oo];omega
    ·have ej:j=m:=by omega
     subst ej;by_cases hi:i=j
     ·subst hi;omega
     ·have:=all i (by omega);have:=all (j - 1) (by omega);omega
  ·refine ji hp a1 cY λi j pA hj=>?_;have em:m=1:=by omega
   subst em;by_cases hi:i=j
   ·subst hi;omega
   ·have e1:i=0:=by omega
    have e2:j=1:=by omega
    subst e1 e2;have:g f p 1 < g f p 0:=a4';omega
theorem jU {p:Array Nat}{k:Nat}(hp:Pm n p)(hk:k < n)(hu:Up f p k):∀ (t l r:Nat),l<=r->r<=k->r<=l + t->(∀ i,i < l->g f p i<=g f p k)->(∀ i,r<=i->i < k->g f p k < g f p i) ->
  fj n (cf f) (kas_place p k t l r) (λl'=>l'<=k/\(∀ i,i < l'->g f p i<=g f p k)/\∀ i,l'<=i->i < k->g f p k < g f p i)
 | 0,l,r,h1,h2,h3,ha,hb=>⟨by omega,ha,λi hi f9=>hb i (by omega) f9⟩
 | t + 1,l,r,h1,h2,h3,ha,hb=>by
  unfold kas_place;split
  ·exact ⟨by omega,ha,λi hi f9=>hb i (by omega) f9⟩
  ·rename_i Oj;refine ⟨by rw [getD_at];exact hp.lt hk,by rw [getD_at];exact hp.lt (by omega),?_⟩;rw [getD_at,getD_at];by_cases hc:g f p k < g f p ((l + r) / 2)
   ·have e:cf f (at' p k) (at' p ((l + r) / 2))=true:=decide_eq_true hc;rw [e];dsimp only;rw [if_pos rfl];refine jU hp hk hu t l ((l + r) / 2) (by omega) (by omega) (by omega) ha λi hi f9=>?_;have:=hu ((l + r) / 2) i (by omega) f9;omega
   ·have e:cf f (at' p k) (at' p ((l + r) / 2))=false:=decide_eq_false hc;rw [e];dsimp only;rw [if_neg zK];refine jU hp hk hu t ((l + r) / 2 + 1) r (by omega) (by omega) (by omega) (λi hi=>?_) hb;have:=hu i ((l + r) / 2) (by omega) (by omega);omega
theorem KA:∀ (t:Nat) (p:Array Nat) (k:Nat),Pm n p->k + t=n->Up f p k->fj n (cf f) (kas_bin t p k) (λp'=>Pm n p'/\Up f p' n)
 | 0,p,k,hp,hk,hu=>⟨hp,by rw [<-hk];exact hu⟩
 | t + 1,p,k,hp,hk,hu=>by
  unfold kas_bin;refine fj.bind _ (fj.mono (λl h=>?_) _ (jU hp (by omega) hu k 0 k (by omega) (by omega) (by omega) (λi hi=>absurd hi (zv _)) λi hi f9=>absurd f9 (by omega)));obtain ⟨a1,a2,a3⟩:=h;refine KA t _ (k + 1) (hp.bub _ _) (by omega) λi j pA hj=>?_;have hs:k < p.size:=by rw [hp.size];omega
  rw [MJ hs (by omega),MJ hs (by omega)];have el:k - (k - l)=l:=by omega
  rw [el];by_cases Xm:i=l
  ·rw [if_pos Xm];by_cases Q3:j=l
   ·rw [if_pos Q3];omega
   ·rw [if_neg Q3,if_pos ⟨by omega,by omega⟩];have:=a3 (j - 1) (by omega) (by omega);omega
  ·rw [if_neg Xm];by_cases Sg:l < i/\i<=k
   ·rw [if_pos Sg];rw [if_neg (by omega),if_pos ⟨by omega,by omega⟩];exact hu _ _ (by omega) (by omega)
   ·rw [if_neg Sg];have ZM:i < l:=by omega
    by_cases Q3:j=l
    ·rw [if_pos Q3];exact a2 i ZM
    ·rw [if_neg Q3];by_cases Xk:l < j/\j<=k
     ·rw [if_pos Xk];exact hu _ _ (by omega) (by omega)
     ·rw [if_neg Xk];exact hu _ _ pA (by omega)
theorem Ln (hn:1<=n):fj n (cf f) (kas_sort n) (λp=>Pm n p/\Up f p n):=by
 unfold kas_sort;refine fj.bind _ (fj.mono (λr h=>?_) _ (Ku hn (show Pm n (List.toArray (List.range n)) from Array.Perm.refl _)));obtain ⟨a1,a2,a3,a4⟩:=h;split
 ·have e:max r.1 1=r.1:=by omega
  rw [e];exact KA _ _ _ a1 (by omega) a4
 ·have e:r.1=n:=by omega
  exact ⟨a1,by rw [<-e];exact a4⟩
end
end aU
namespace aU
def lx:List Int->List Int->Bool
 | [],[]=>false
 | [],_::_=>true
 | _::_,[]=>false
 | x::xs,y::ys=>if x=y then lx xs ys else decide (x < y)
theorem JL:∀ r:List Int,lx r r=false
 | []=>rfl
 | x::xs=>by unfold lx;rw [if_pos rfl];exact JL xs
theorem JK:∀ {a b c:List Int},lx a b=true->lx b c=true->lx a c=true
 | [],[],_,h,_=>by cases h
 | [],_::_,[],_,h=>by cases h
 | [],_::_,_::_,_,_=>rfl
 | _::_,[],_,h,_=>by cases h
 | _::_,_::_,[],_,h=>by cases h
 | x::xs,y::ys,z::zs,h,h'=>by
  unfold lx at h h' ⊢;split at h
  ·split at h'
   ·rename_i e1 e2;rw [if_pos (e1.trans e2)];exact JK h h'
   ·rename_i e1 e2;simp only [decide_eq_true_eq] at h';rw [if_neg (by omega)];simp only [decide_eq_true_eq];omega
  ·simp only [decide_eq_true_eq] at h;split at h'
   ·rename_i e1 e2;rw [if_neg (by omega)];simp only [decide_eq_true_eq];omega
   ·simp only [decide_eq_true_eq] at h';rw [if_neg (by omega)];simp only [decide_eq_true_eq];omega
theorem qQ:∀ {a b:List Int},lx a b=false->lx b a=false->a=b
 | [],[],_,_=>rfl
 | [],_::_,h,_=>by cases h
 | _::_,[],_,h=>by cases h
 | x::xs,y::ys,h,h'=>by
  unfold lx at h h';split at h
  ·rename_i e;subst e;rw [if_pos rfl] at h';rw [qQ h h']
  ·rename_i e;rw [if_neg λz=>e z.symm] at h';simp only [decide_eq_false_iff_not] at h h';omega
def rk (rs:List (List Int))(r:List Int):Int:=((rs.countP λx=>lx x r:Nat):Int)
theorem i0 {α:Type}{p q:α->Bool}{a:α}:∀ {l:List α},(∀ x,p x=true->q x=true)->a∈l->p a=false->q a=true->l.countP p < l.countP q
 | [],_,h,_,_=>by cases h
 | x::l,Vh,h,h1,h2=>by
  have hm:l.countP p<=l.countP q:=List.countP_mono_left λx _=>Vh x;rcases zP.mp h with rfl | h
  ·rw [List.countP_cons_of_neg (by rw [h1];exact zK),List.countP_cons_of_pos h2];omega
  ·have:=i0 Vh h h1 h2;rw [List.countP_cons,List.countP_cons];cases e:p x with
   | true=>rw [Vh x e];simp;omega
   | false=>cases e2:q x <;> simp <;> omega
theorem Mx {rs:List (List Int)}{a b:List Int}(ha:a∈rs):decide (rk rs a < rk rs b)=lx a b:=by
 unfold rk;cases h:lx a b with
 | true=>
  have:=i0 (p:=λx=>lx x a) (q:=λx=>lx x b) (λx hx=>JK hx h) ha (JL a) h;simp only [decide_eq_true_eq];omega
 | false=>
  have hm:rs.countP (λx=>lx x b)<=rs.countP (λx=>lx x a):=List.countP_mono_left λx _ hx=>by
   cases h':lx b a with
   | true=>exact JK hx h'
   | false=>rw [qQ h h'];exact hx
  simp only [decide_eq_false_iff_not];omega
end aU
namespace L2
open PySem PySem.Spec PyProof.Rows PySem.W aU
theorem aY.at {P:Program}{w:World}{H:Hp}{h:Heap}{a:Addr}{o:HO}(x:aY P w H h a o):∃ ob,h.get? a=some ob:=by
 cases o with
 | lst xs=>obtain ⟨_,_,_,_,e⟩:=x;exact ⟨_,e⟩
 | tup xs=>obtain ⟨_,_,_,ob,e,_⟩:=x;exact ⟨_,e⟩
 | dK aE=>obtain ⟨_,_,_,_,o,_,_,e,_⟩:=x;exact ⟨_,e⟩
 | dT aE=>obtain ⟨_,_,_,_,o,_,_,e,_⟩:=x;exact ⟨_,e⟩
 | set S n=>obtain ⟨o,_,_,_,e,_⟩:=x;exact ⟨_,e⟩
 | ins C dx fs=>obtain ⟨_,_,_,e,_⟩:=x;exact ⟨_,e⟩
 | own y=>obtain ⟨_,e⟩:=x;exact ⟨_,e⟩
 | xd fs=>obtain ⟨_,⟨_,_,_,e,_⟩,_⟩:=x;exact ⟨_,e⟩
 | RT lo hi=>obtain ⟨_,_,_,e⟩:=x;exact ⟨_,e⟩
 | ni ob u=>obtain ⟨e,_⟩:=x;exact ⟨_,e⟩
 | jr ps=>exact ⟨_,(show h.get? a=some _ from x)⟩
 | met f y=>exact ⟨_,(show h.get? a=some _ from x)⟩
 | ext φ=>obtain ⟨_,⟨_,e⟩,_⟩:=x;exact ⟨_,e⟩
section
variable {X:Cx}{aa:List (Addr×Obj)}{σ:St}{H:Hp}{s:Shared}
theorem Inv.vQ {m:Str->Option Value}{h':Heap}{D:Addr}{au:List Value}{c:Nat}{xs:List V}(I:Inv X aa σ H s)(F0:Fr X.base X.env.locals s.heap m)(F:Fr X.base X.env.locals h' m)
  (N:News X.base X.env.locals h' ((D,listOf au.toArray c)::eW X.base s.heap X.env.locals)) (lt:∀ q∈eW X.base s.heap X.env.locals,q.1 < D) (hv:Vals xs au) (hz:xs.length<=sizeLine) :
  Inv X aa σ (upd H D (.lst xs)) { s with heap:=h' }/\H D=none:=by
 obtain ⟨eD,nL,nb⟩:=N (D,listOf au.toArray c) (.head _);have Ql:s.heap.get? D=none:=by
  cases q:s.heap.get? D with
  | none=>rfl
  | some o=>exact absurd (lt (D,o) (di nL nb q)) (zy _)
 have hD:H D=none:=by
  cases q:H D with
  | none=>rfl
  | some u=>
   obtain ⟨ob,e⟩:=(I.br D u q).at;rw [Ql] at e;cases e
 have keep:∀ b o,b≠X.env.locals->s.heap.get? b=some o->h'.get? b=some o:=λb o hb e=>by
  cases q:X.base.get? b with
  | some u=>
   have:=I.bk b u q;rw [e] at this;cases this;exact F.keep b _ q
  | none=>exact (N (b,o) (.tail _ (di hb q e))).1
 have NQ:∀ b o,s.heap.get? b=some o->b≠D:=λb o e z=>by rw [z,Ql] at e;cases e
 have neT:∀ b u,H b=some u->b≠D:=λb u e z=>by rw [z,hD] at e;cases e
 refine ⟨I.step (g':=s.gens) (t':=s.toks) (d':=s.drawn) (ch:=[]) (λ_ z=>nomatch z) (λb o hb _ _ e _=>keep b o hb e) (λb o hb _ _ e _=>⟨o.slots,keep b o hb e⟩) (λb o _ e n=>by rw [xR (NQ b o e)];exact n) (λb o _ e=>?_)
  (λb ys e=>by rw [xR (neT b _ e)];exact e) (λb o u e=>by rw [xR (neT b _ e)];exact e) (λb ps e=>⟨#[],by rw [xR (neT b _ e),e,Array.append_empty]⟩) (λm' hm=>?_) (λb u e=>?_) I.bare,hD⟩
 ·by_cases hb:b=X.env.locals
  ·obtain ⟨o',_,_,q,_⟩:=F.ns;exact ⟨o',by rw [hb];exact q⟩
  ·exact ⟨o,keep b o hb e⟩
 ·obtain ⟨o1,ML,ep1,e1,d1,k1,f1⟩:=hm;obtain ⟨o2,es2,ep2,e2,d2,k2,f2⟩:=F0.ns;rw [e1] at e2;cases e2;rw [d1] at d2;cases d2;obtain ⟨o3,VZ,V0,e3,d3,k3,f3⟩:=F.ns;exact ⟨o3,VZ,V0,e3,d3,k3,λname=>(f3 name).trans ((f2 name).symm.trans (f1 name))⟩
 ·by_cases hb:b=D
  ·subst hb;rw [xN] at e;cases e;exact ⟨hz,au,c,hv,eD⟩
  ·rw [xR hb] at e;refine (I.br b u e).gA (λc v hc q=>keep c v (λz=>?_) q) (λc q=>by rw [xR (neT c _ q)];exact q) λc ys q=>by rw [xR (neT c _ q)];exact q
   rcases hc with rfl | hc
   ·rw [z,I.free] at e;cases e
   ·rw [z,I.free] at hc;cases hc
end
section
variable {prog:Program}{w:World}{A:Around}{E:Value->Shared->Prop}{s:Shared}
theorem qD {au:List Value}(kT:au.length < 2):(au.toArray.zip au.toArray).map (·.2)=au.toArray:=by
 rcases au with _ | ⟨x,_ | ⟨y,r⟩⟩
 ·simp
 ·simp
 ·exact absurd kT (by simp)
theorem qC {a:Addr}{au:List Value}{k:Nat}{P:PySem.Fin->Shared->Prop}(hx:s.heap.get? a=some (seqObj "list" au.toArray k))(kT:au.length < 2)
  (done:P (.done (.ret .none)) { s with heap:=sortedHeap s.heap a au au.toArray }):wpAny (model prog w) A (Builtin.«list.sort» ⟨[.ref a],[]⟩) P E s:=by
 have here:a < s.heap.objs.size:=Heap.lt_size hx;have line:au.length<=sizeLine:=by rw [sizeLine_eq];omega
 rw [list_sort_plain];obtain ⟨e1,Sw⟩:∃ e1,(s.heap.update a (Obj.mapSeq λ_=>(#[]:Array Value))).get? a=some (seqObj "list" #[] e1):=⟨_,get?_update_seq hx (λ_=>#[])⟩;refine wpAny_bind (listItems_at hx rfl (wpAny_bind (listUpdate_at hx rfl (wpAny_bind (seqEpoch_at Sw rfl (wpAny_bind (wpAny_newTuple (wpAny_bind (wpAny_newList (wpAny_holding ?_) (zY _))) line))))
  (by rw [zM];exact line) (zY _))))
 have at2:(((s.heap.update a (Obj.mapSeq λ_=>(#[]:Array Value))).push (seqObj "tuple" au.toArray 0)).push (seqObj "list" #[] 0)).get? a=some (seqObj "list" #[] e1):=
  Heap.get?_push_of_some _ (Heap.get?_push_of_some _ Sw)
 show wpAny (model prog w) A _ P E { s with heap:=((s.heap.update a (Obj.mapSeq λ_=>(#[]:Array Value))).push (seqObj "tuple" au.toArray 0)).push (seqObj "list" #[] 0) };have less:au.toArray.size < 2:=by rw [zM];exact kT
 have P6:(arrOf (SortSt.mk' general' (au.toArray.zip au.toArray) #[] 7 none)).map (·.2)=au.toArray:=by
  show (au.toArray.zip au.toArray).map (·.2)=au.toArray;exact qD kT
 dsimp only;rw [if_pos less,if_pos less];refine wpAny_bind (wpAny_pure ?_);rw [StateT.run_pure];refine wpAny_bind (wpAny_pure ?_);dsimp only;refine wpAny_bind (seqEpoch_at at2 rfl (wpAny_bind (listUpdate_at at2 rfl ?_ (zY _) (by rw [P6,zM];omega))));simp only [bne_self_eq_false,ze,if_false];rw [P6];exact wpAny_pure done
theorem mS {l:Addr}{au:List Value}{Q:Value->Shared->Prop}(hl:s.heap.IsList l au.toArray)(kT:au.length < 2)
  (done:Q (.ref (s.heap.objs.size + 1)) { s with heap:=sortedAll s.heap au au.toArray }):wpAny (model prog w) A (call (.builtin "sorted") [.ref l]) Q E s:=by
 have line:au.length<=sizeLine:=by rw [sizeLine_eq];omega
 refine Calls.call_function_entry kind_sorted plain_sorted entry_sorted (args_sorted1 _) ?_;unfold Builtin.«sorted»;refine wpAny_bind (m:=checkCount "sorted" 1 1 _) (wpAny_pure (wpAny_bind (collect_list hl (wpAny_bind (wpAny_newList ?_ line)) line)));have sz:((s.heap.push (seqObj "list" #[] 0)).update s.heap.objs.size (Obj.mapSeq (·++au.toArray))).objs.size=s.heap.objs.size + 1:=by rw [Heap.size_update,size_push']
 have X4:(((s.heap.push (seqObj "list" #[] 0)).update s.heap.objs.size (Obj.mapSeq (·++au.toArray))).push (seqObj "list" au.toArray 0)).get? (s.heap.objs.size + 1)=some (seqObj "list" au.toArray 0):=by
  rw [<-sz];exact Heap.get?_push_size _ rfl
 show wpAny _ _ _ _ _ { s with heap:=((s.heap.push (seqObj "list" #[] 0)).update s.heap.objs.size (Obj.mapSeq (·++au.toArray))).push (seqObj "list" au.toArray 0) };rw [sz];exact wpAny_bind (wpAny_holding (wpAny_call_entry slot_list_sort ⟨_,X4,rfl⟩ entry_list_sort (qC X4 kT ⟨_,rfl,wpAny_pure ⟨_,rfl,done⟩⟩) (args_list_sort _)))
end
section
variable {X:Cx}
theorem lJ:∀ {ps:List (Addr×List Int)}{us:List Value},Vals (ps.map λa=>V.ref a.1) us->us=ps.map λa=>Value.ref a.1
 | [],us,r=>by cases r;rfl
 | a::ps,us,r=>by
  cases r with
  | cons x y=>rw [lJ y];cases x;rfl
def MU (h:Heap)(a:Addr)(r:List Int):Prop:=∃ o items n,h.get? a=some o/\o.cls=.type "tuple" /\ o.data=.seq items n/\Vals (r.map V.int) items.toList
theorem n5 {prog:Program}{w:World}{A:Around}{s:Shared}{b fin:Bool}{Q:Bool->Shared->Prop}:∀ {r r':List Int}{us M6:List Value}{i:Nat},Vals (r.map V.int) us->Vals (r'.map V.int) M6->fin=decide (us.length < M6.length)->Q (lx r r') s ->
  KatLex prog w A b fin Q (us.zip M6) i s
 | [],[],us,M6,i,ru,vR,hf,q=>by cases ru;cases vR;exact kat_nil (by rw [hf];exact q)
 | [],_::_,us,M6,i,ru,vR,hf,q=>by
  cases ru;cases vR with
  | cons _ _=>exact kat_nil (by rw [hf];simpa [lx] using q)
 | _::_,[],us,M6,i,ru,vR,hf,q=>by
  cases vR;cases ru with
  | cons _ _=>exact kat_nil (by rw [hf];simpa [lx] using q)
 | x::r,y::r',us,M6,i,ru,vR,hf,q=>by
  cases ru with
  | cons rx ru=>
  cases vR with
  | cons ry vR=>
  obtain ⟨t,rfl⟩:=rx;obtain ⟨t',rfl⟩:=ry;refine kat_cons (wpAny_eqBool_int ?_);unfold lx at q;by_cases e:x=y
  ·subst e;rw [if_pos rfl] at q;rw [show (x == x)=true from by simp];exact kat_yes (n5 ru vR (by rw [hf];simp) q)
  ·rw [if_neg e] at q;rw [show (x == y)=false from by simpa using e];refine kat_no ?_;cases (b && i == 0) with
   | true=>exact oneLt_int q
   | false=>exact kat_one _ _ (lt_int q)
theorem o4 {h:Heap}:∀ {ps:List (Addr×List Int)},(∀ a∈ps,MU h a.1 a.2/\a.2≠[])->∃ fs,KatTups h (ps.map λa=>Value.ref a.1) fs/\fs.length=ps.length/\∀ v∈fs,∃ i t,v=Value.int i t
 | [],_=>⟨[],KatTups.nil,rfl,λ_ z=>nomatch z⟩
 | (a,r)::ps,hp=>by
  obtain ⟨fs,k,l,f⟩:=o4 λa ha=>hp a (.tail _ ha);obtain ⟨⟨o,items,n,ho,hc,hd,hv⟩,hn⟩:=hp (a,r) (.head _)
  match r,hn,hv with
  | x::r,_,hv=>
   obtain ⟨u,hu,t,e⟩:=Vals.get (i:=0) hv rfl;refine ⟨u::fs,KatTups.cons ho hc hd (by rw [<-hu];simp) k,by simp [l],λv hv=>?_⟩;rcases zP.mp hv with rfl | hv
   ·exact ⟨x,t,e⟩
   ·exact f v hv
theorem ua {α:Type}(d:α)(l:List α):(List.range l.length).map (λi=>l.getD i d)=l:=by
 apply List.ext_getElem
 ·simp
 ·intro i h1 h2;simp [List.getD,h2]
theorem gT:∀ (ps:List (Addr×List Int)),Vals (ps.map λa=>V.ref a.1) (ps.map λa=>Value.ref a.1)
 | []=>.nil
 | _::ps=>.cons rfl (gT ps)
theorem kG:dW X (.builtin "sorted") (λxs H Q=>∃ p,∃ ps:List (Addr×List Int),xs=[.ref p]/\aJ X.K H p (ps.map λa=>V.ref a.1)/\ps.length < 64/\(∀ a∈ps,H a.1=some (.tup (a.2.map V.int))/\a.2≠[]) /\
  ∀ l qs,H l=none->List.Perm qs ps->qs.Pairwise (λa b=>lx b.2 a.2=false)->Q (.ref l) (upd H l (.lst (qs.map λa=>V.ref a.1)))):=by
 intro aa s σ H xs us Q I r h;obtain ⟨p,ps,rfl,hq,h64,f6,q⟩:=h;obtain ⟨u,rfl,rx⟩:=vals1 r;cases rx;obtain ⟨au,r',pl,hz⟩:=I.list hq;have ei:=lJ r';subst ei;have hlen:(ps.map λa=>Value.ref a.1).length=ps.length:=by simp
 by_cases h2:ps.length < 2
 ·refine mS pl.isList (by omega) ?_;have sz:((s.heap.push (seqObj "list" #[] 0)).update s.heap.objs.size (Obj.mapSeq (·++(ps.map λa=>Value.ref a.1).toArray))).objs.size=s.heap.objs.size + 1:=by rw [Heap.size_update,size_push']
  have kp:∀ b o,s.heap.get? b=some o->(sortedAll s.heap (ps.map λa=>Value.ref a.1) (ps.map λa=>Value.ref a.1).toArray).get? b=some o:=λb o e=>by
   have lb:b < s.heap.objs.size:=Heap.lt_size e;unfold sortedAll sortedHeap;rw [Heap.get?_update_ne _ _ _ _ (zU (yi lb))];refine Heap.get?_push_of_some _ (Heap.get?_push_of_some _ ?_);rw [Heap.get?_update_ne _ _ _ _ (zU (yi lb))];refine Heap.get?_push_of_some _ ?_;rw [Heap.get?_update_ne _ _ _ _ (zU lb)];exact Heap.get?_push_of_some _ e
  obtain ⟨c,ec⟩:∃ c,(sortedAll s.heap (ps.map λa=>Value.ref a.1) (ps.map λa=>Value.ref a.1).toArray).get? (s.heap.objs.size + 1)=some (seqObj "list" (ps.map λa=>Value.ref a.1).toArray c):=by
   have e0:=Heap.get?_push_size ((s.heap.push (seqObj "list" #[] 0)).update s.heap.objs.size (Obj.mapSeq (·++(ps.map λa=>Value.ref a.1).toArray))) (o:=seqObj "list" (ps.map λa=>Value.ref a.1).toArray 0) rfl;rw [sz] at e0;unfold sortedAll sortedHeap;have e1:=get?_update_seq e0 (λ_=>(#[]:Array Value));exact ⟨_,get?_update_seq (Heap.get?_push_of_some _ (Heap.get?_push_of_some _ e1)) _⟩
  refine ⟨.ref (s.heap.objs.size + 1),_,I.laid (t':=s.toks) kp (z8 _) (show aY X.prog X.w _ _ _ (.lst (ps.map λa=>V.ref a.1)) from ⟨hz,_,c,r',ec⟩),rfl,q _ ps (I.br.fresh (z8 _)) (List.Perm.refl _) ?_⟩
  match ps,h2 with
  | [],_=>exact .nil
  | [_],_=>exact List.pairwise_singleton _ _
 ·obtain ⟨m,F⟩:=I.fr;refine kat_sorted F (oR (g:=X.base) (h:=s.heap)) pl.isList (by omega) (by omega) λD e1 h' F' N' lt=>?_;have keep:∀ b o,b≠X.env.locals->s.heap.get? b=some o->h'.get? b=some o:=λb o hb e=>by
   cases q:X.base.get? b with
   | some u=>
    have:=I.bk b u q;rw [e] at this;cases this;exact F'.keep b _ q
   | none=>exact (N' (b,o) (.tail _ (di hb q e))).1
  have rowAt:∀ a∈ps,MU h' a.1 a.2/\a.2≠[]:=λa ha=>by
   obtain ⟨ht,hn⟩:=f6 a ha;obtain ⟨_,au,rv,o,e,c,n,d⟩:=I.br a.1 _ ht;refine ⟨⟨o,_,n,keep a.1 o (λz=>?_) e,c,d,rv⟩,hn⟩;rw [z,I.free] at ht;cases ht
  obtain ⟨fs,kt,lf,hf⟩:=o4 rowAt;refine kat_kind (T:=.type "int") kt (by omega) (λv hv=>?_) (by decide) ?_
  ·obtain ⟨i,t,rfl⟩:=hf v hv;exact Looks.now
  have n1:1<=(ps.map λa=>Value.ref a.1).length:=by omega
  refine fj.wp (c:=cf λi=>rk (ps.map (·.2)) ((ps.map (·.2)).getD i [])) (λi j C hi hj hC=>?_) (λpp hp=>?_) _ (Ln (f:=λi=>rk (ps.map (·.2)) ((ps.map (·.2)).getD i [])) n1)
  ·have f9:i < ps.length:=by omega
   have kR:j < ps.length:=by omega
   obtain ⟨⟨o,items,n,ho,hc,hd,hv⟩,hn⟩:=rowAt ps[i] (z4 f9);obtain ⟨⟨o',UW,n',o8,Ra,Ma,Va⟩,Xd⟩:=rowAt ps[j] (z4 kR);unfold kas_ask;have ei:(ps.map λa=>Value.ref a.1).getD i Value.none=.ref ps[i].1:=by simp [f9]
   have ej:(ps.map λa=>Value.ref a.1).getD j Value.none=.ref ps[j].1:=by simp [kR]
   rw [ei,ej];refine kat_lt ho hd o8 Ma (n5 hv Va (by simp) ?_);have e:cf (λi=>rk (ps.map (·.2)) ((ps.map (·.2)).getD i [])) i j=lx ps[i].2 ps[j].2:=by
    unfold cf;have e1:(ps.map (·.2)).getD i []=ps[i].2:=by simp [f9]
    have e2:(ps.map (·.2)).getD j []=ps[j].2:=by simp [kR]
    simp only [e1,e2];exact Mx (zS.mpr ⟨ps[i],z4 f9,rfl⟩)
   rw [e] at hC;exact hC
  ·obtain ⟨pm,up⟩:=hp;refine KasFin.intro F' N' (UpdF.head λx hx=>zU (lt x hx)) λh2' c F2 N2=>?_;have pl:pp.toList.Perm (List.range ps.length):=by
    have:=pm.toList;rw [hlen] at this;simpa using this
   have eo:(pp.toList.map λi=>(ps.map λa=>Value.ref a.1).getD i Value.none)=(pp.toList.map λi=>ps.getD i (0,[])).map λa=>Value.ref a.1:=by
    rw [yC];refine List.map_congr_left λi hi=>?_;have f9:i < ps.length:=zj.mp (pl.mem_iff.mp hi);simp [f9]
   have perm:(pp.toList.map λi=>ps.getD i (0,[])).Perm ps:=by
    have:=pl.map λi=>ps.getD i (0,[]);rwa [ua] at this
   rw [eo] at N2;have Zp:((pp.toList.map λi=>ps.getD i (0,[])).map λa=>V.ref a.1).length<=sizeLine:=by
    rw [zA,perm.length_eq,sizeLine_eq];omega
   obtain ⟨I2,hD⟩:=I.vQ F F2 N2 lt (gT _) Zp;refine ⟨.ref D,_,I2,rfl,q D _ hD perm ?_⟩;rw [yQ];intro i j hi hj pA;simp only [zA,Array.length_toList] at hi hj;simp only [List.getElem_map,Array.getElem_toList];have hn:pp.size=ps.length:=by rw [pm.size];exact hlen
   have key:=up i j (xH pA) (by omega);have a1:pp[i] < ps.length:=zj.mp (pl.mem_iff.mp (by simp));have a2:pp[j] < ps.length:=zj.mp (pl.mem_iff.mp (by simp));unfold g at'  at key;simp only [hi,hj,getElem?_pos,Option.getD_some] at key;have e1:(ps.map (·.2)).getD pp[i] []=ps[pp[i]].2:=by simp [a1]
   have e2:(ps.map (·.2)).getD pp[j] []=ps[pp[j]].2:=by simp [a2]
   rw [e1,e2] at key;have e3:ps.getD pp[i] (0,[])=ps[pp[i]]:=by simp [a1]
   have e4:ps.getD pp[j] (0,[])=ps[pp[j]]:=by simp [a2]
   rw [e3,e4];have:=Mx (rs:=ps.map (·.2)) (a:=ps[pp[j]].2) (b:=ps[pp[i]].2) (zS.mpr ⟨_,z4 a2,rfl⟩);rw [<-this];simp only [decide_eq_false_iff_not];omega
end
end L2
namespace L2
open PySem PySem.Spec PyProof.Rows
def notStar:Expr->Bool
 | .Starred _ _=>false
 | _=>true
theorem iO {e:Expr}{es:List Expr}{env:Env}(h:notStar e=true):starEach (e::es) env=(false,eval e env)::starEach es env:=by cases e <;> first | rfl | cases h
@[irreducible] def O5 (X:Cx) (es:List Expr) (t:TA):Prop:=PA X es t
theorem xK {X:Cx}{es:List Expr}{t:TA}(h:O5 X es t):PA X es t:=by unfold O5 at h;exact h
theorem MB {X:Cx}{es:List Expr}{t:TA}(h:PA X es t):O5 X es t:=by unfold O5;exact h
theorem xU {X:Cx}:O5 X [] ql:=MB cj
theorem xL {X:Cx}{e:Expr}{es:List Expr}{te:TE}{t:TA}(ha:PE X e te)(hr:O5 X es t)(hn:notStar e=true):O5 X (e::es) (jK te t):=MB (LD ha (xK hr) (iO hn))
@[irreducible] def p7 (X:Cx) (es:List Stmt) (t:TS):Prop:=mJ X es t
theorem xM {X:Cx}{es:List Stmt}{t:TS}(h:p7 X es t):mJ X es t:=by unfold p7 at h;exact h
theorem Kz {X:Cx}{es:List Stmt}{t:TS}(h:mJ X es t):p7 X es t:=by unfold p7;exact h
theorem xk {X:Cx}{a:Stmt}{t:TS}(h:PS X a t):p7 X [a] t:=Kz (Lv h)
theorem xf {X:Cx}{a b:Stmt}{rest:List Stmt}{t u:TS}(h:PS X a t)(hr:p7 X (b::rest) u):p7 X (a::b::rest) (qk t u):=Kz (vW h (xM hr))
section
variable {K:PySem.W.Frag}{a:Addr}{xs:List V}{n:Nat}{caps:List Nat}{g:TG}{tc:TT}{te:TE}{σ:St}{H:Hp}{Qf:Addr->Hp->List V->Prop}
theorem nF {J:It}(Pv:Nat->St->List V->Hp->Prop)(len:Nat)(h0:Pv 0 (jt n caps σ) [] H)(hn:len<=1000)(hl:∀ i τ acc H,Pv i τ acc H->acc.length<=i)
  (ZO:∀ i τ acc H,i < len->Pv i τ acc H->J.go i H) (QN:∀ τ acc H,Pv len τ acc H->J.stop len H)
  (hs:∀ i τ acc H (C:St->List V->Hp->Prop),i < len->Pv i τ acc H->(∀ τ acc H,Pv (i + 1) τ acc H->C τ acc H)->∀ x H',J.rQ i H x H'->g x τ H' fun c8 H2=>tc c8 H2 λb H3=>if b=true then te c8 H3 λy H4=>C c8 (acc++[y]) H4 else C c8 acc H3)
  (hd:∀ τ acc H,Pv len τ acc H->∀ p,H p=none->Qf p H acc) :
  ∃ W:Nat->Nat->St->List V->Hp->Prop,(∃ m,W 0 m (jt n caps σ) [] H)/\∀ i m τ acc H,W i m τ acc H ->
   (J.stop i H/\acc.length<=sizeLine/\∀ p,H p=none->Qf p H acc) \/
   (J.go i H/\acc.length < sizeLine/\∀ x H',J.rQ i H x H'->g x τ H' fun c8 H2=>tc c8 H2 λb H3=>if b=true then te c8 H3 λy H4=>∃ m',m' < m/\W (i + 1) m' c8 (acc++[y]) H4 else ∃ m',m' < m/\W (i + 1) m' c8 acc H3):=by
 have line:1001<=sizeLine:=by rw [sizeLine_eq];decide
 refine ⟨λi m τ acc H=>m=len - i/\i<=len/\Pv i τ acc H,⟨len,by simp,zY _,h0⟩,?_⟩;rintro i m τ acc H ⟨rfl,hi,p⟩;have q:=hl i τ acc H p;by_cases cY:i < len
 ·exact .inr ⟨ZO i τ acc H cY p,by omega,λx H' y=>hs i τ acc H (fun τ acc H=>∃ m',m' < len - i/\m'=len - (i + 1)/\i + 1<=len/\Pv (i + 1) τ acc H) cY p (fun τ acc H p'=>⟨len - (i + 1),by omega,rfl,cY,p'⟩) x H' y⟩
 ·have e:i=len:=by omega
  subst e;exact .inl ⟨QN τ acc H p,by omega,hd τ acc H p⟩
theorem Kv (Pv:Nat->St->List V->Hp->Prop)(h0:Pv 0 (jt n caps σ) [] H)(hn:xs.length<=1000)(hl:∀ i τ acc H,Pv i τ acc H->acc.length<=i/\bC K H a xs)
  (hs:∀ i x τ acc H (C:St->List V->Hp->Prop),xs[i]?=some x->Pv i τ acc H->(∀ τ acc H,Pv (i + 1) τ acc H->C τ acc H)->g x τ H fun c8 H2=>tc c8 H2 λb H3=>if b=true then te c8 H3 λy H4=>C c8 (acc++[y]) H4 else C c8 acc H3)
  (hd:∀ τ acc H,Pv xs.length τ acc H->∀ p,H p=none->Qf p H acc) :
  ∃ W:Nat->Nat->St->List V->Hp->Prop,(∃ m,W 0 m (jt n caps σ) [] H)/\∀ i m τ acc H,W i m τ acc H ->
   ((Mn K a).stop i H/\acc.length<=sizeLine/\∀ p,H p=none->Qf p H acc) \/
   ((Mn K a).go i H/\acc.length < sizeLine/\∀ x H',(Mn K a).rQ i H x H'->g x τ H' fun c8 H2=>tc c8 H2 λb H3=>if b=true then te c8 H3 λy H4=>∃ m',m' < m/\W (i + 1) m' c8 (acc++[y]) H4 else ∃ m',m' < m/\W (i + 1) m' c8 acc H3):=
 nF (J:=Mn K a) Pv xs.length h0 hn (λi τ acc H p=>(hl i τ acc H p).1) (λi τ acc H hi p=>⟨xs,xs[i],(hl i τ acc H p).2,by simp [hi]⟩) (fun τ acc H p=>⟨xs,(hl _ τ acc H p).2,zB _⟩)
  (λi τ acc H C hi p c x H' y=>by obtain ⟨e,y⟩:=y;subst e;exact hs i x τ acc _ C (y xs (hl i τ acc _ p).2) p c) hd
theorem dR (Pv:Nat->St->List V->Hp->Prop)(h0:Pv 0 (jt n caps σ) [] H)(hn:xs.length<=1000)(hl:∀ i τ acc H,Pv i τ acc H->acc.length<=i/\aJ K H a xs)
  (hs:∀ i x τ acc H (C:St->List V->Hp->Prop),xs[i]?=some x->Pv i τ acc H->(∀ τ acc H,Pv (i + 1) τ acc H->C τ acc H)->g x τ H fun c8 H2=>tc c8 H2 λb H3=>if b=true then te c8 H3 λy H4=>C c8 (acc++[y]) H4 else C c8 acc H3)
  (hd:∀ τ acc H,Pv xs.length τ acc H->∀ p,H p=none->Qf p H acc) :
  ∃ W:Nat->Nat->St->List V->Hp->Prop,(∃ m,W 0 m (jt n caps σ) [] H)/\∀ i m τ acc H,W i m τ acc H ->
   ((Mp K a).stop i H/\acc.length<=sizeLine/\∀ p,H p=none->Qf p H acc) \/
   ((Mp K a).go i H/\acc.length < sizeLine/\∀ x H',(Mp K a).rQ i H x H'->g x τ H' fun c8 H2=>tc c8 H2 λb H3=>if b=true then te c8 H3 λy H4=>∃ m',m' < m/\W (i + 1) m' c8 (acc++[y]) H4 else ∃ m',m' < m/\W (i + 1) m' c8 acc H3):=
 nF (J:=Mp K a) Pv xs.length h0 hn (λi τ acc H p=>(hl i τ acc H p).1) (λi τ acc H hi p=>⟨xs,xs[i],(hl i τ acc H p).2,by simp [hi]⟩) (fun τ acc H p=>⟨xs,(hl _ τ acc H p).2,zB _⟩)
  (λi τ acc H C hi p c x H' y=>by obtain ⟨e,y⟩:=y;subst e;exact hs i x τ acc _ C (y xs (hl i τ acc _ p).2) p c) hd
theorem uK {tb:TS}{D:Ends}(Pv:Nat->St->Hp->Prop)(h0:Pv 0 σ H)(hl:∀ i σ H,i<=xs.length->Pv i σ H->bC K H a xs)
  (hs:∀ i x q σ H,xs[i]?=some x->H q=none->Pv i σ H->g (.ref q) σ (upd H q (.tup [.int i,x])) fun jq H2=>tb (D.lp (Pv (i + 1))) jq H2) (hd:∀ σ H,Pv xs.length σ H->D.nx σ H) :
  ∃ W:Nat->Nat->St->Hp->Prop,(∃ m,W 0 m σ H)/\∀ i m σ H,W i m σ H ->
   ((KP K a).stop i H/\D.nx σ H)\/((KP K a).go i H/\∃ N:St->Hp->Prop,(∀ bE H',N bE H'->∃ m',m' < m/\W (i + 1) m' bE H')/\∀ x H',(KP K a).rQ i H x H'->g x σ H' fun jq H2=>tb (D.lp N) jq H2):=by
 refine ⟨λi m σ H=>m=xs.length - i/\i<=xs.length/\Pv i σ H,⟨xs.length,by simp,zY _,h0⟩,?_⟩;rintro i m σ H ⟨rfl,hi,p⟩;have q:=hl i σ H hi p;by_cases cY:i < xs.length
 ·refine .inr ⟨⟨xs,xs[i],q,by simp [cY]⟩,Pv (i + 1),fun bE H' p'=>⟨xs.length - (i + 1),by omega,rfl,cY,p'⟩,λx H' y=>?_⟩;obtain ⟨q',x',hq,e1,e2,y⟩:=y;subst e1;subst e2;exact hs i x' q' σ _ (y xs q) hq p
 ·have e:i=xs.length:=by omega
  subst e;exact .inl ⟨⟨xs,q,zB _⟩,hd σ H p⟩
theorem iZ {tb:TS}{D:Ends}(Pv:Nat->St->Hp->Prop)(h0:Pv 0 σ H)(hl:∀ i σ H,i<=xs.length->Pv i σ H->aJ K H a xs)
  (hs:∀ i x q σ H,xs[i]?=some x->H q=none->Pv i σ H->g (.ref q) σ (upd H q (.tup [.int i,x])) fun jq H2=>tb (D.lp (Pv (i + 1))) jq H2) (hd:∀ σ H,Pv xs.length σ H->D.nx σ H) :
  ∃ W:Nat->Nat->St->Hp->Prop,(∃ m,W 0 m σ H)/\∀ i m σ H,W i m σ H ->
   ((KQ K a).stop i H/\D.nx σ H)\/((KQ K a).go i H/\∃ N:St->Hp->Prop,(∀ bE H',N bE H'->∃ m',m' < m/\W (i + 1) m' bE H')/\∀ x H',(KQ K a).rQ i H x H'->g x σ H' fun jq H2=>tb (D.lp N) jq H2):=by
 refine ⟨λi m σ H=>m=xs.length - i/\i<=xs.length/\Pv i σ H,⟨xs.length,by simp,zY _,h0⟩,?_⟩;rintro i m σ H ⟨rfl,hi,p⟩;have q:=hl i σ H hi p;by_cases cY:i < xs.length
 ·refine .inr ⟨⟨xs,xs[i],q,by simp [cY]⟩,Pv (i + 1),fun bE H' p'=>⟨xs.length - (i + 1),by omega,rfl,cY,p'⟩,λx H' y=>?_⟩;obtain ⟨q',x',hq,e1,e2,y⟩:=y;subst e1;subst e2;exact hs i x' q' σ _ (y xs q) hq p
 ·have e:i=xs.length:=by omega
  subst e;exact .inl ⟨⟨xs,q,zB _⟩,hd σ H p⟩
end
end L2
namespace Sm
open PySem L2 aU
def bV (p:Addr)(H H':Hp):Prop:=∀ b u,b≠p->H b=some u->H' b=some u
theorem bV.refl (p:Addr)(H:Hp):bV p H H:=λ_ _ _ h=>h
theorem bV.trans {p:Addr}{H H1 H2:Hp}(a:bV p H H1)(b:bV p H1 H2):bV p H H2:=λc u n h=>b c u n (a c u n h)
theorem bV.set {p:Addr}{H:Hp}{o:HO}:bV p H (upd H p o):=λb u n h=>by rw [xR n];exact h
theorem bV.new {p l:Addr}{H:Hp}{o:HO}(h:H l=none):bV p H (upd H l o):=λb u n e=>by rw [xR (xQ e h)];exact e
def bB (H:Hp)(p:Addr):Prop:=∃ a b c:Int,H p=some (.lst [.int a,.int b,.int c])
def Go (p:Addr)(H H':Hp):Prop:=bV p H H'/\bB H' p
theorem Go.trans {p:Addr}{H H1 H2:Hp}(a:Go p H H1)(b:Go p H1 H2):Go p H H2:=⟨a.1.trans b.1,b.2⟩
theorem Go.refl {p:Addr}{H:Hp}(a:bB H p):Go p H H:=⟨bV.refl p H,a⟩
theorem bB.new {p l:Addr}{H:Hp}{o:HO}(a:bB H p)(h:H l=none):bB (upd H l o) p:=by obtain ⟨x,y,z,e⟩:=a;exact ⟨x,y,z,by rw [xR (xQ e h)];exact e⟩
theorem bB.ne {p l:Addr}{H:Hp}(a:bB H p)(h:H l=none):l≠p:=by obtain ⟨x,y,z,e⟩:=a;exact (xQ e h).symm
theorem Go.new {p l:Addr}{H H1:Hp}{o:HO}(a:Go p H H1)(h:H1 l=none):Go p H (upd H1 l o):=⟨a.1.trans (bV.new h),a.2.new h⟩
theorem bB.tup {p t:Addr}{H:Hp}{xs:List V}(a:bB H p)(h:H t=some (.tup xs)):t≠p:=by obtain ⟨x,y,z,e⟩:=a;exact bY h e (by intro z;cases z)
def bL (H H':Hp):Prop:=∀ b xs,H b=some (.tup xs)->H' b=some (.tup xs)
theorem bL.trans {H H1 H2:Hp}(a:bL H H1)(b:bL H1 H2):bL H H2:=λc u h=>b c u (a c u h)
theorem Go.aR {p:Addr}{H H':Hp}(a:Go p H H')(h:bB H p):bL H H':=λb xs e=>a.1 b _ (h.tup e) e
theorem bL.new {l:Addr}{H:Hp}{o:HO}(h:H l=none):bL H (upd H l o):=λb u e=>by rw [xR (xQ e h)];exact e
theorem bL.set {l:Addr}{H:Hp}{xs:List V}{o:HO}(h:H l=some (.lst xs)):bL H (upd H l o):=λb u e=>by rw [xR (bY e h (by intro z;cases z))];exact e
theorem bL.same {H H':Hp}(h:aA H H'):bL H H':=λb u e=>h b _ e
structure M4 where
 lo:Int
 hi:Int
 t:Int
 m:Int
def M4.vs (r:M4):List V:=[.int r.lo,.int r.hi,.int r.t,.int r.m]
def apart (a b:M4):Prop:=a.lo≠b.lo/\a.lo≠b.hi/\a.hi≠b.lo/\a.hi≠b.hi
structure Good (w:Int) (ms:List M4):Prop where
 kT:ms.length<=60
 each:∀ r∈ms,0<=r.lo/\r.lo < r.hi/\r.hi < w/\1<=r.t/\r.t<=1000000000/\1<=r.m/\r.m<=99
 order:ms.Pairwise λa b=>a.t < b.t\/(a.t=b.t/\a.lo < b.lo/\apart a b)
def ja (H:Hp)(ps:List (Addr×M4)):Prop:=∀ a∈ps,H a.1=some (.tup a.2.vs)
structure aL (H:Hp) (b:Addr) (af:List Int) (tr tm:Addr) (ps:List (Addr×M4)):Prop where
 book:H b=some (.tup [.ref tr,.ref tm])
 af:H tr=some (.tup (af.map V.int))
 meets:H tm=some (.tup (ps.map λa=>V.ref a.1))
 rows:ja H ps
theorem ja.aR {H H':Hp}{ps:List (Addr×M4)}(a:ja H ps)(t:bL H H'):ja H' ps:=λx hx=>t _ _ (a x hx)
theorem aL.aR {H H':Hp}{b tr tm:Addr}{af:List Int}{ps:List (Addr×M4)}(a:aL H b af tr tm ps)(t:bL H H'):aL H' b af tr tm ps:=
 ⟨t _ _ a.book,t _ _ a.af,t _ _ a.meets,a.rows.aR t⟩
def Lj (K:PySem.W.Frag):Sp:=λvs H Q _=>∃ (a:Addr) (ns:List Int) (k:Nat),vs=[.ref a,.int k]/\aJ K H a (ns.map V.int)/\k < 1000/\∀ p H',H p=none->bB H' p->aA H H'->Q (.ref p) H'
def Nq:Sp:=λvs H Q _=>∃ p n,vs=[.ref p,.int n]/\0 < n/\n < 2 ^ 200/\bB H p/\∀ d H',0<=d->d < n->Go p H H'->Q (.int d) H'
def P5:Sp:=λvs H Q _=>∃ p,vs=[.ref p]/\bB H p/\∀ d H',0<=d->d<=1000000000->Go p H H'->Q (.int d) H'
def Li:Sp:=λvs H Q _=>∃ p,∃ n:Nat,vs=[.ref p,.int n]/\n<=1000/\bB H p/\∀ (t:Addr) (af:List Int) (H':Hp),Go p H H'->H' t=some (.tup (af.map V.int))->af.length=n->(∀ r∈af,(0:Int)<=r/\r<=99)->Q (.ref t) H'
def Nr:Sp:=λvs H Q _=>∃ p,vs=[.ref p]/\bB H p/\∀ d H',0<=d->d<=16000000->Go p H H'->Q (.int d) H'
def qw:Sp:=λvs H Q _=>∃ p,∃ w:Int,∃ n:Nat,vs=[.ref p,.int w,.int n]/\n<=60/\w < 1000/\(n=0\/2<=w)/\bB H p /\
 ∀ (t:Addr) (ps:List (Addr×M4)) (H':Hp),Go p H H'->H' t=some (.tup (ps.map λa=>V.ref a.1))->ja H' ps->Good w (ps.map (·.2))->ps.length=n->Q (.ref t) H'
def Nu:Sp:=λvs H Q _=>∃ p,∃ a:Int,∃ n:Nat,vs=[.ref p,.int a,.int n]/\1<=a/\a<=100/\n<=60/\bB H p /\
 ∀ (b:Addr) (af:List Int) (tr tm:Addr) (ps:List (Addr×M4)) (H':Hp),Go p H H'->aL H' b af tr tm ps->1<=af.length->(af.length:Int)<=a->(∀ r∈af,(0:Int)<=r/\r<=99)->Good af.length (ps.map (·.2))->ps.length<=n->Q (.ref b) H'
theorem dP {c A B:Prop}[Decidable c](h1:c->A)(h2:¬ c->B):if decide c=true then A else B:=by
 by_cases h:c
 ·rw [if_pos (decide_eq_true h)];exact h1 h
 ·rw [if_neg (by simpa using h)];exact h2 h
theorem aD {c:Bool}{A B:Prop}(hc:c=false)(h:B):if c=true then A else B:=by rw [if_neg (by rw [hc];exact zK)];exact h
theorem aM {c:Bool}{A B:Prop}(hc:c=true)(h:A):if c=true then A else B:=by rw [if_pos hc];exact h
theorem o5 {c:Bool}{A B:Prop}(h1:c=true->A)(h2:c=false->B):if c=true then A else B:=by
 cases c with
 | true=>exact h1 rfl
 | false=>exact h2 rfl
theorem JU {c A B:Prop}[Decidable c](hc:c)(h:B):if (!decide c)=true then A else B:=QD hc h
theorem xP {H:Hp}{p:Addr}{o:HO}(h:H p=none):aA H (upd H p o):=λb u e=>by
 rw [xR (xQ e h)];exact e
def M4.row (r:M4):List Int:=[r.t,r.lo,r.hi,r.m]
structure O9 (w Ms:Int) (bs:List Int) (fs:List (Addr×M4)):Prop where
 each:∀ a∈fs,0<=a.2.lo/\a.2.lo < a.2.hi/\a.2.hi < w/\1<=a.2.t/\a.2.t<=Ms/\1<=a.2.m/\a.2.m<=99
 pw:fs.Pairwise λa b=>a.2.t=b.2.t->apart a.2 b.2
 bz:∀ a∈fs,a.2.t=Ms->a.2.lo∈bs/\a.2.hi∈bs
theorem O9.step {w wh gap one other m:Int}{bs bs':List Int}{fs:List (Addr×M4)}{a:Addr}(F:O9 w wh bs fs)(h1:1<=wh)(g0:0<=gap)(o0:0<=one)(o1:one < w)(p0:0<=other)(p1:other < w)(ne:one≠other)
  (m0:1<=m) (m1:m<=99) (hg:gap=0->one ∉ bs/\other ∉ bs) (hb:∀ x∈bs,gap=0->x∈bs') (lC:one∈bs') (pD:other∈bs') :
  O9 w (wh + gap) bs' (fs++[(a,⟨if other < one then other else one,if other > one then other else one,wh + gap,m⟩)]):=by
 refine ⟨λb hb=>?_,?_,λb hm e=>?_⟩
 ·rcases zQ.mp hb with h | h
  ·obtain ⟨a1,a2,a3,a4,a5,a6,a7⟩:=F.each b h;exact ⟨a1,a2,a3,a4,by omega,a6,a7⟩
  ·cases zN.mp h;by_cases c:other < one
   ·rw [if_pos c,if_neg (by omega)];exact ⟨p0,c,o1,by show 1<=wh + gap;omega,zq _,m0,m1⟩
   ·rw [if_neg c,if_pos (by omega)];exact ⟨o0,by show one < other;omega,p1,by show 1<=wh + gap;omega,zq _,m0,m1⟩
 ·rw [List.pairwise_append];refine ⟨F.pw,List.pairwise_singleton _ _,λb hb c hc e=>?_⟩;cases zN.mp hc;have e':b.2.t=wh + gap:=e;obtain ⟨a1,a2,a3,a4,a5,a6,a7⟩:=F.each b hb;have g:gap=0:=by omega
  obtain ⟨x1,x2⟩:=F.bz b hb (by omega);obtain ⟨n1,n2⟩:=hg g;have q1:b.2.lo≠one:=λz=>n1 (z ▸ x1);have q2:b.2.lo≠other:=λz=>n2 (z ▸ x1);have q3:b.2.hi≠one:=λz=>n1 (z ▸ x2);have q4:b.2.hi≠other:=λz=>n2 (z ▸ x2);unfold apart;dsimp only;by_cases c:other < one
  ·rw [if_pos c,if_neg (by omega)];exact ⟨q2,q1,q4,q3⟩
  ·rw [if_neg c,if_pos (by omega)];exact ⟨q1,q2,q3,q4⟩
 ·rcases zQ.mp hm with h | h
  ·obtain ⟨a1,a2,a3,a4,a5,a6,a7⟩:=F.each b h;obtain ⟨x1,x2⟩:=F.bz b h (by omega);exact ⟨hb _ x1 (by omega),hb _ x2 (by omega)⟩
  ·cases zN.mp h;by_cases c:other < one
   ·rw [if_pos c,if_neg (by omega)];exact ⟨pD,lC⟩
   ·rw [if_neg c,if_pos (by omega)];exact ⟨lC,pD⟩
def M4.fZ (l:Int)(r:M4):M4:=⟨r.lo,r.hi,r.t + l,r.m⟩
theorem O9.good {w wh l:Int}{bs:List Int}{fs qs:List (Addr×M4)}(F:O9 w wh bs fs)(n:fs.length<=60)(l0:0<=l)(l1:fs≠[]->wh + l<=1000000000)(p:qs.Perm fs)(s:qs.Pairwise λa b=>lx b.2.row a.2.row=false) :
  Good w (qs.map λa=>a.2.fZ l):=by
 refine ⟨by rw [zA,p.length_eq];exact n,λr hr=>?_,?_⟩
 ·obtain ⟨a,ha,rfl⟩:=zS.mp hr;have hm:=p.mem_iff.mp ha;obtain ⟨a1,a2,a3,a4,a5,a6,a7⟩:=F.each a hm;have:=l1 (List.ne_nil_of_mem hm);unfold M4.fZ;exact ⟨a1,a2,a3,by show 1<=a.2.t + l;omega,by show a.2.t + l<=1000000000;omega,a6,a7⟩
 ·rw [yx];have ap:qs.Pairwise λa b=>a.2.t=b.2.t->apart a.2 b.2:=(List.Perm.pairwise_iff (λ{x y} h e=>by
   obtain ⟨a1,a2,a3,a4⟩:=h e.symm;exact ⟨a1.symm,a3.symm,a2.symm,a4.symm⟩) p).mpr F.pw
  refine (s.and ap).imp λ{a b} ⟨h1,h2⟩=>?_;unfold M4.fZ;dsimp only;unfold M4.row lx at h1;by_cases e:a.2.t=b.2.t
  ·have q:=h2 e;rw [if_pos e.symm] at h1;unfold lx at h1;rw [if_neg λz=>q.1 z.symm] at h1;simp only [decide_eq_false_iff_not] at h1;refine .inr ⟨by omega,?_,q⟩;have:=q.1;omega
  ·rw [if_neg λz=>e z.symm] at h1;simp only [decide_eq_false_iff_not] at h1;exact .inl (by omega)
def Nc (r:List Int):M4:=⟨r.getD 1 0,r.getD 2 0,r.getD 0 0,r.getD 3 0⟩
theorem t9 {fs:List (Addr×M4)}{qs:List (Addr×List Int)}(p:qs.Perm (fs.map λa=>(a.1,a.2.row)))(s:qs.Pairwise λa b=>lx b.2 a.2=false) :
  ∃ rs:List (Addr×M4),rs.Perm fs/\(rs.Pairwise λa b=>lx b.2.row a.2.row=false)/\qs=rs.map λa=>(a.1,a.2.row):=by
 have e:qs=(qs.map λa=>(a.1,Nc a.2)).map λa=>(a.1,a.2.row):=by
  rw [yC];refine (List.map_id qs).symm.trans (List.map_congr_left λx hx=>?_);obtain ⟨a,_,rfl⟩:=zS.mp (p.mem_iff.mp hx);rfl
 refine ⟨qs.map λa=>(a.1,Nc a.2),?_,?_,e⟩
 ·have:=p.map λa=>(a.1,Nc a.2);rw [yC] at this;refine this.trans (.of_eq ?_);refine (List.map_congr_left λx _=>?_).trans (List.map_id fs);rfl
 ·rw [e,yx] at s;exact s
theorem mq (bs:List Int):(bs.map V.int).all bT=true:=by rw [xB];intro x hx;obtain ⟨b,_,rfl⟩:=zS.mp hx;rfl
theorem o7 {x:Int}{bs:List Int}:uE (.int x) (bs.map V.int)=decide (x∈bs):=by
 unfold uE;induction bs with
 | nil=>rfl
 | cons b bs ih=>
  rw [za,yu,ih];by_cases h:x=b
  ·subst h;simp [qa]
  ·have h':¬ b=x:=λz=>h z.symm;simp [qa,h,h']
def Sz (p lf:Addr)(w:Int)(n:Nat)(H:Hp)(i:Nat)(σ:St)(H3:Hp):Prop:=
 ∃ v6 v7 v8 v9 v10 wh lb bs,∃ fs:List (Addr×M4),σ=[some (.ref p),some (.int w),some (.int n),some (.ref lf),some (.int wh),some (.ref lb),v6,v7,v8,v9,v10,none] /\
  H3 lf=some (.lst (fs.map λa=>V.ref a.1))/\H3 lb=some (.lst (List.map V.int bs))/\lb≠lf/\lb≠p/\(∀ a∈fs,H3 a.1=some (.tup (a.2.row.map V.int)))/\O9 w wh bs fs/\fs.length=i/\bs.length<=2 * i/\1<=wh/\wh<=10000000 + 16000000 * i/\Go p H H3
theorem Sz.step {p lf lb t:Addr}{w wh gap one other m:Int}{n i:Nat}{H Hx:Hp}{bs bs':List Int}{fs:List (Addr×M4)}{v6 v7 v8 v9 v10:Option V}(KY:lf≠p)(J0:H lf=none)
  (F:O9 w wh bs fs) (JO:fs.length=i) (NX:bs'.length<=2 * i + 2) (RK:1<=wh) (T8:wh<=10000000 + 16000000 * i) (hf:Hx lf=some (.lst (fs.map λa=>V.ref a.1))) (hb:Hx lb=some (.lst (List.map V.int bs'))) (nb:lb≠lf) (Qq:lb≠p)
  (rows:∀ a∈fs,Hx a.1=some (.tup (a.2.row.map V.int))) (go:Go p H Hx) (ht:Hx t=none)
  (g0:0<=gap) (g1:gap<=16000000) (o0:0<=one) (o1:one < w) (p0:0<=other) (p1:other < w) (ne:one≠other) (m0:1<=m) (m1:m<=99) (hg:gap=0->one ∉ bs/\other ∉ bs) (Mb:∀ x∈bs,gap=0->x∈bs') (lC:one∈bs') (pD:other∈bs') :
  Sz p lf w n H (i + 1) [some (.ref p),some (.int w),some (.int n),some (.ref lf),some (.int (wh + gap)),some (.ref lb),v6,v7,v8,v9,v10,none]
   (upd (upd Hx t (.tup [.int (wh + gap),.int (if other < one then other else one),.int (if other > one then other else one),.int m])) lf (.lst ((fs.map λa=>V.ref a.1)++[.ref t]))):=by
 have YK:t≠lf:=(xQ hf ht).symm;refine ⟨v6,v7,v8,v9,v10,wh + gap,lb,bs',fs++[(t,⟨if other < one then other else one,if other > one then other else one,wh + gap,m⟩)],rfl,by rw [xN,zF];rfl,?_,nb,Qq,λa ha=>?_,F.step RK g0 o0 o1 p0 p1 ne m0 m1 hg Mb lC pD,by rw [zO,JO];rfl,by omega,by omega,by omega,λb u nb e=>?_,?_⟩
 ·rw [xR nb,xR (xQ hb ht)];exact hb
 ·rcases zQ.mp ha with h | h
  ·have:=rows a h;rw [xR (bY this hf (by intro z;cases z)),xR (xQ this ht)];exact this
  ·cases zN.mp h;rw [xR YK,xN];rfl
 ·rw [xR (xQ e J0),xR (xQ (go.1 b u nb e) ht)];exact go.1 b u nb e
 ·have:=go.2.new (o:=.tup [.int (wh + gap),.int (if other < one then other else one),.int (if other > one then other else one),.int m]) ht;obtain ⟨x,y,z,e⟩:=this;exact ⟨x,y,z,by rw [xR KY.symm];exact e⟩
theorem NI {one x w:Int}(o0:0<=one)(o1:one < w)(x0:0<=x)(x1:x < w - 1):0<=(one + 1 + x) % w/\(one + 1 + x) % w < w/\one≠(one + 1 + x) % w:=by
 refine ⟨yr _ (by omega),yc _ (by omega),?_⟩;by_cases h:one + 1 + x < w
 ·rw [Int.emod_eq_of_lt (by omega) h];omega
 ·have e:(one + 1 + x) % w=(one + 1 + x - w) % w:=by
   have:one + 1 + x=(one + 1 + x - w) + w:=by omega
   rw [this,Int.add_emod_right];congr 1;omega
  rw [e,Int.emod_eq_of_lt (by omega) (by omega)];omega
theorem Go.same {p:Addr}{H H1 H2:Hp}(a:Go p H H1)(s:aA H1 H2):Go p H H2:=⟨λb u n e=>s b u (a.1 b u n e),by obtain ⟨x,y,z,e⟩:=a.2;exact ⟨x,y,z,s _ _ e⟩⟩
theorem wP {α:Type}{f:α->V}{l:List α}{i:Nat}{x:V}(h:(l.map f)[i]?=some x):∃ r,l[i]?=some r/\x=f r:=by
 rw [zG] at h;cases e:l[i]? with
 | none=>rw [e] at h;cases h
 | some r=>rw [e] at h;exact ⟨r,rfl,(Option.some.inj h).symm⟩
theorem wM {α:Type}{l:List α}{i:Nat}{r:α}(h:l[i]?=some r):l.take (i + 1)=l.take i++[r]:=by rw [List.take_add_one,h];rfl
theorem bV.same {p:Addr}{H H1 H2:Hp}(hp:H p=none)(s:aA H H1)(g:bV p H1 H2):aA H H2:=λb u e=>g b u (xQ e hp) (s b u e)
theorem aA.put {l:Addr}{H H':Hp}{o:HO}(h:H l=none)(s:aA H H'):aA H (upd H' l o):=λb u e=>by rw [xR (xQ e h)];exact s b u e
theorem aL.same {H H':Hp}{b tr tm:Addr}{af:List Int}{ps:List (Addr×M4)}(a:aL H b af tr tm ps)(t:aA H H'):aL H' b af tr tm ps:=a.aR (bL.same t)
theorem rT {H:Hp}{l:Addr}{xs:List V}(h:H l=some (.lst xs)):lN H (.ref l)=some "list" := by simp only [lN,h]
theorem Mg {xs:List V}(h:xs.length=4):∃ a b c d,xs=[a,b,c,d]:=by rcases xs with _ | ⟨a,_ | ⟨b,_ | ⟨c,_ | ⟨d,_ | ⟨e,xs⟩⟩⟩⟩⟩ <;> first | exact ⟨_,_,_,_,rfl⟩ | (simp only [zZ,yI] at h;omega)
def rV:Sp:=λvs H Q _=>∃ x t,vs=[x]/\lN H x=some t/\Q (.bl (t == "int")) H
def nV (lo hi:Int):V->Bool
 | .int i=>decide (lo<=i) && decide (i<=hi)
 | _=>false
def vH:Sp:=λvs H Q _=>∃ x t lo hi,vs=[x,.int lo,.int hi]/\lN H x=some t/\Q (.bl (nV lo hi x)) H
def Np:Sp:=λvs H Q _=>∃ x t,vs=[x]/\lN H x=some t/\Q (.bl (nV 0 1000000000 x)) H
theorem K9 {H:Hp}{x:V}(h:lN H x=some "int"):∃ i,x=.int i:=by
 cases x with
 | int i=>exact ⟨i,rfl⟩
 | ref a=>
  unfold lN at h;dsimp only at h;split at h <;> simp at h
 | _=>simp [lN] at h
theorem N8 {H:Hp}{x:V}{t:String}{lo hi:Int}(h:lN H x=some t)(n:¬ t = "int"):nV lo hi x=false:=by
 cases x with
 | int i=>simp [lN] at h;exact absurd h.symm n
 | _=>rfl
def VJ (w:Int)(r:M4):Bool:=decide (r.lo=w) || decide (r.hi=w)
def numsTo (ms:List M4)(w:Int):Nat->List Int
 | 0=>[]
 | i + 1=>numsTo ms w i++(if (ms[i]?).any (VJ w)=true then [(i:Int)] else [])
theorem LS {w a b:Int}:uE (.int w) [.int a,.int b]=(decide (a=w) || decide (b=w)):=by simp only [uE,qa,yu,List.any_nil,Bool.or_false];rfl
def cnt (ms:List M4)(t:Int):Nat:=(ms.filter λr=>decide (r.t<=t)).length
theorem pN {ms:List M4}{t:Int}{i:Nat}{r:M4}(h:ms[i]?=some r):cnt (ms.take (i + 1)) t=cnt (ms.take i) t + (if r.t<=t then 1 else 0):=by unfold cnt;rw [wM h,List.filter_append,zO];congr 1;by_cases c:r.t<=t <;> simp [c]
def vO:Sp:=λvs H Q _=>∃ b t af tr tm ps,vs=[.ref b,.int t]/\aL H b af tr tm ps/\ps.length<=1000/\∀ H',aA H H'->Q (.int (cnt (ps.map (·.2)) t)) H'
def vJ:Sp:=λvs H Q _=>∃ p b j af tr tm ps,vs=[.ref p,.ref b,.int j]/\(j=0\/j=1)/\aL H b af tr tm ps/\Good af.length (ps.map (·.2))/\bB H p/\∀ d H',0<=d->d<=1000000000->Go p H H'->Q (.int d) H'
theorem Good.len {w:Int}{ps:List (Addr×M4)}(g:Good w (ps.map (·.2))):ps.length<=60:=by simpa using g.kT
theorem Good.at {w:Int}{ps:List (Addr×M4)}(g:Good w (ps.map (·.2))){r:Addr×M4}(h:r∈ps):0<=r.2.lo/\r.2.lo < r.2.hi/\r.2.hi < w/\1<=r.2.t/\r.2.t<=1000000000/\1<=r.2.m/\r.2.m<=99:=g.each _ (zS.mpr ⟨r,h,rfl⟩)
end Sm
namespace L2
open PySem PySem.Spec PyProof.Rows
end L2
namespace fN
open PySem
theorem kK {xs:Array Nat}{j:Nat}(so:xs.toList.Pairwise (· < ·)):∀ (fuel lo hi:Nat),hi - lo<=fuel->lo<=hi->hi<=xs.size->(∀ i (h:i < xs.size),i < lo->xs[i] < j)->(∀ i (h:i < xs.size),hi<=i->j<=xs[i]) ->
  SetTable.below.go xs j fuel lo hi<=xs.size/\(∀ i (h:i < xs.size),i < SetTable.below.go xs j fuel lo hi->xs[i] < j)/\∀ i (h:i < xs.size),SetTable.below.go xs j fuel lo hi<=i->j<=xs[i]
 | 0,lo,hi,hf,h1,h2,hl,hh=>by
  have:lo=hi:=by omega
  subst this;unfold SetTable.below.go;exact ⟨h2,hl,hh⟩
 | fuel + 1,lo,hi,hf,h1,h2,hl,hh=>by
  unfold SetTable.below.go;have mono:∀ a b (ha:a < xs.size) (hb:b < xs.size),a < b->xs[a] < xs[b]:=λa b ha hb ab=>by
   have:=yQ.mp so a b (by simpa using ha) (by simpa using hb) ab;simpa using this
  by_cases c:lo < hi
  ·rw [if_pos c];dsimp only;have hm:(lo + hi) / 2 < xs.size:=by omega
   have e:xs.getD ((lo + hi) / 2) j=xs[(lo + hi) / 2]:=by simp [Array.getD,hm]
   rw [e];by_cases d:xs[(lo + hi) / 2] < j
   ·rw [if_pos d];refine kK so fuel _ _ (by omega) (by omega) h2 (λi h f9=>?_) hh;by_cases q:i=(lo + hi) / 2
    ·subst q;exact d
    ·exact Nat.lt_trans (mono i ((lo + hi) / 2) h hm (by omega)) d
   ·rw [if_neg d];refine kK so fuel _ _ (by omega) (by omega) (by omega) hl (λi h f9=>?_);by_cases q:i=(lo + hi) / 2
    ·subst q;omega
    ·have:=mono ((lo + hi) / 2) i hm h (by omega);omega
  ·rw [if_neg c];have:lo=hi:=by omega
   subst this;exact ⟨h2,hl,hh⟩
theorem kJ {xs:Array Nat}{j:Nat}(so:xs.toList.Pairwise (· < ·)):SetTable.below xs j<=xs.size/\(∀ i (h:i < xs.size),i < SetTable.below xs j->xs[i] < j)/\∀ i (h:i < xs.size),SetTable.below xs j<=i->j<=xs[i]:=
 kK so _ _ _ (by omega) (by omega) (zB _) (λ_ _ h=>absurd h (zv _)) (λi h hi=>absurd h (by omega))
theorem below_at {xs:Array Nat}{j i:Nat}(so:xs.toList.Pairwise (· < ·))(h:xs[i]?=some j):SetTable.below xs j=i:=by
 obtain ⟨hi,e⟩:=Array.getElem?_eq_some_iff.mp h;obtain ⟨b1,b2,b3⟩:=kJ (j:=j) so;rcases Nat.lt_trichotomy (SetTable.below xs j) i with c | c | c
 ·have hb:SetTable.below xs j < xs.size:=by omega
  have:=b3 _ hb (zB _);have m:=yQ.mp so (SetTable.below xs j) i (by simpa using hb) (by simpa using hi) c;simp only [Array.getElem_toList] at m;omega
 ·exact c
 ·have:=b2 i hi c;omega
theorem iP {t:SetTable}{j i:Nat}(so:t.place.toList.Pairwise (· < ·))(h:t.place[i]?=some j):t.slot j=.live i:=by unfold SetTable.slot;dsimp only;rw [below_at so h,h];simp
theorem qE {t:SetTable}{j:Nat}(nd:t.dummies=#[])(h:j ∉ t.place.toList):t.slot j=.empty:=by
 unfold SetTable.slot;dsimp only;rw [if_neg,if_neg]
 ·rw [nd];unfold SetTable.has;simp
 ·intro c;have:t.place[SetTable.below t.place j]?=some j:=by simpa using c
  exact h (by simpa using Array.mem_of_getElem? this)
def vd (m:Nat)(p:SetTable.Probe):SetTable.Probe:=
 if p.more > 0 then { p with j:=p.j + 1,more:=p.more - 1 } else
 { p with j:=(SetTable.leap m p.i p.perturb).1,more:=SetTable.runEnd m (SetTable.leap m p.i p.perturb).1 - (SetTable.leap m p.i p.perturb).1,i:=(SetTable.leap m p.i p.perturb).1,perturb:=(SetTable.leap m p.i p.perturb).2 }
theorem kM (t:SetTable)(p:SetTable.Probe):t.advance p=vd t.mask p:=rfl
def run (m i u:Nat):SetTable.Probe:={ j:=i,more:=SetTable.runEnd m i - i,i,perturb:=u,dummy:=none }
def start (m:Nat)(h:Int):SetTable.Probe:=run m (SetTable.bits h % (m + 1)) (SetTable.bits h)
def ad (m:Nat):Nat->SetTable.Probe->SetTable.Probe
 | 0,p=>p
 | n + 1,p=>ad m n (vd m p)
theorem iD (m n:Nat)(p:SetTable.Probe):ad m (n + 1) p=vd m (ad m n p):=by
 induction n generalizing p with
 | zero=>rfl
 | succ n ih=>exact ih (vd m p)
theorem KH (m a b:Nat)(p:SetTable.Probe):ad m (a + b) p=ad m b (ad m a p):=by
 induction a generalizing p with
 | zero=>rw [Nat.zero_add];rfl
 | succ a ih=>rw [Nat.succ_add];exact ih (vd m p)
theorem uV {m:Nat}{p:SetTable.Probe}:(vd m p).dummy=p.dummy:=by unfold vd;split <;> rfl
theorem p5 {m:Nat}:∀ {n:Nat}{p:SetTable.Probe},(ad m n p).dummy=p.dummy
 | 0,_=>rfl
 | n + 1,p=>(p5 (n:=n)).trans uV
def at' (m:Nat)(h:Int)(n:Nat):Nat:=(ad m n (start m h)).j
theorem fX {m i u:Nat}:∀ k,k<=SetTable.runEnd m i - i->ad m k (run m i u)={ j:=i + k,more:=SetTable.runEnd m i - i - k,i,perturb:=u,dummy:=none }
 | 0,_=>rfl
 | k + 1,h=>by
  rw [iD,fX k (by omega)];unfold vd;dsimp only;rw [if_pos (by omega)];rfl
theorem jm {m i u:Nat}:ad m (SetTable.runEnd m i - i + 1) (run m i u)=run m ((i * 5 + 1 + u / 32) % (m + 1)) (u / 32):=by rw [iD,fX _ (zB _)];unfold vd;dsimp only;rw [if_neg (by omega)];rfl
theorem dI {m i:Nat}:SetTable.runEnd m i - i<=9/\i<=SetTable.runEnd m i/\(i<=m->SetTable.runEnd m i<=m):=by unfold SetTable.runEnd;split <;> omega
def runs (m:Nat):Nat->Nat->Nat->Nat×Nat
 | 0,i,u=>(i,u)
 | r + 1,i,u=>runs m r ((i * 5 + 1 + u / 32) % (m + 1)) (u / 32)
theorem r9 {m:Nat}:∀ (r i u:Nat),∃ c,c<=10 * r/\ad m c (run m i u)=run m (runs m r i u).1 (runs m r i u).2
 | 0,i,u=>⟨0,zB _,rfl⟩
 | r + 1,i,u=>by
  obtain ⟨c,hc,e⟩:=r9 r ((i * 5 + 1 + u / 32) % (m + 1)) (u / 32);refine ⟨SetTable.runEnd m i - i + 1 + c,?_,?_⟩
  ·have:=(dI (m:=m) (i:=i)).1;omega
  ·rw [KH,jm,e];rfl
theorem oB {m:Nat}:∀ (a b i u:Nat),runs m (a + b) i u=runs m b (runs m a i u).1 (runs m a i u).2
 | 0,b,i,u=>by rw [Nat.zero_add];rfl
 | a + 1,b,i,u=>by rw [Nat.succ_add];exact oB a b _ _
theorem gY {m:Nat}:∀ (r i u:Nat),(runs m r i u).2=u / 32 ^ r
 | 0,i,u=>by simp [runs]
 | r + 1,i,u=>by
  show (runs m r _ (u / 32)).2=_;rw [gY r,Nat.div_div_eq_div_mul,Nat.pow_succ,Nat.mul_comm]
theorem jQ {m:Nat}:∀ (r i u:Nat),i<=m->(runs m r i u).1<=m
 | 0,i,u,h=>h
 | r + 1,i,u,h=>jQ r _ _ (yP.mp (Nat.mod_lt _ (by omega)))
def f5 (m:Nat):Nat->Nat->Nat
 | 0,i=>i
 | s + 1,i=>f5 m s ((i * 5 + 1) % (m + 1))
theorem r6 {m:Nat}:∀ (s i:Nat),(runs m s i 0).1=f5 m s i
 | 0,i=>rfl
 | s + 1,i=>by
  show (runs m s ((i * 5 + 1 + 0 / 32) % (m + 1)) (0 / 32)).1=f5 m s ((i * 5 + 1) % (m + 1));rw [Nat.zero_div,Nat.add_zero];exact r6 s _
theorem nu {m:Nat}:∀ (a b i:Nat),f5 m (a + b) i=f5 m b (f5 m a i)
 | 0,b,i=>by rw [Nat.zero_add];rfl
 | a + 1,b,i=>by rw [Nat.succ_add];exact nu a b _
def nI (m:Nat):Nat->Nat->Nat->Nat
 | 0,_,acc=>acc
 | s + 1,i,acc=>nI m s ((i * 5 + 1) % (m + 1)) (acc ||| (2 ^ i))
theorem jk {m j:Nat}:∀ (s i acc:Nat),(nI m s i acc).testBit j=true->acc.testBit j=true\/∃ a,a < s/\f5 m a i=j
 | 0,i,acc,h=>.inl h
 | s + 1,i,acc,h=>by
  rcases jk s _ _ h with h | ⟨a,ha,e⟩
  ·rw [zm,yX] at h;rcases h with h | h
   ·exact .inl h
   ·rw [zo] at h;exact .inr ⟨0,by omega,of_decide_eq_true h⟩
  ·exact .inr ⟨a + 1,by omega,e⟩
def Mask (m:Nat):Prop:=m=7\/m=31\/m=127\/m=511\/m=2047\/m=8191
theorem OT {m:Nat}(hm:Mask m):f5 m (m + 1) 0=0/\∀ j,j<=m->∃ a,a<=m/\f5 m a 0=j:=by
 have key:f5 m (m + 1) 0=0/\nI m (m + 1) 0 0=2 ^ (m + 1) - 1:=by
  rcases hm with rfl | rfl | rfl | rfl | rfl | rfl <;> constructor <;> decide +kernel
 refine ⟨key.1,λj hj=>?_⟩;have:(nI m (m + 1) 0 0).testBit j=true:=by
  rw [key.2,Nat.testBit_two_pow_sub_one];exact decide_eq_true (by omega)
 rcases jk _ _ _ this with h | ⟨a,ha,e⟩
 ·simp at h
 ·exact ⟨a,by omega,e⟩
theorem cover {m i j:Nat}(hm:Mask m)(hi:i<=m)(hj:j<=m):∃ s,s<=m/\f5 m s i=j:=by
 obtain ⟨z,all⟩:=OT hm;obtain ⟨a,ha,rfl⟩:=all i hi;obtain ⟨b,hb,rfl⟩:=all j hj;by_cases c:a<=b
 ·exact ⟨b - a,by omega,by rw [<-nu];congr 1;omega⟩
 ·refine ⟨b + (m + 1) - a,by omega,?_⟩;rw [<-nu,show a + (b + (m + 1) - a)=(m + 1) + b from by omega,nu,z]
theorem reach {m i u j:Nat}(hm:Mask m)(hi:i<=m)(hu:u < 2 ^ 64)(hj:j<=m):∃ r,r<=m + 13/\(runs m r i u).1=j:=by
 have p0:(runs m 13 i u).2=0:=by
  rw [gY];exact Nat.div_eq_of_lt (zR hu (by decide))
 obtain ⟨s,hs,e⟩:=cover hm (jQ 13 i u hi) hj;refine ⟨13 + s,by omega,?_⟩;rw [oB,p0,r6,e]
theorem sU (h:Int):SetTable.bits h < 2 ^ 64:=by
 unfold SetTable.bits;have a:=yr h (show (2 ^ 64:Int)≠0 by decide);have b:=yc h (show (0:Int) < 2 ^ 64 by decide);have c:((h % 2 ^ 64).toNat:Int)=h % 2 ^ 64:=yN a;have d:((2 ^ 64:Nat):Int)=(2:Int) ^ 64:=by decide
 omega
theorem vU {m j:Nat}{h:Int}(hm:Mask m)(hj:j<=m):∃ n,n<=10 * (m + 13)/\at' m h n=j:=by obtain ⟨r,hr,e⟩:=reach (u:=SetTable.bits h) hm (yP.mp (Nat.mod_lt (SetTable.bits h) (show 0 < m + 1 by omega))) (sU h) hj;obtain ⟨c,hc,e2⟩:=r9 (m:=m) r (SetTable.bits h % (m + 1)) (SetTable.bits h);refine ⟨c,by omega,?_⟩;unfold at' start;rw [e2,e];rfl
theorem least {P:Nat->Prop}:∀ n,P n->∃ k,k<=n/\P k/\∀ i,i < k->¬ P i:=by
 intro n;induction n using Nat.strongRecOn with
 | _ n ih=>
  intro h;by_cases c:∃ i,i < n/\P i
  ·obtain ⟨i,hi,pi⟩:=c;obtain ⟨k,hk,pk,al⟩:=ih i hi pi;exact ⟨k,by omega,pk,al⟩
  ·exact ⟨n,zB _,h,λi hi pi=>c ⟨i,hi,pi⟩⟩
theorem rq {m:Nat}{O:Nat->Prop}(h:Int)(hm:Mask m)(he:∃ j,j<=m/\¬ O j):∃ N,N<=10 * (m + 13)/\¬ O (at' m h N)/\∀ n,n < N->O (at' m h n):=by obtain ⟨j,hj,no⟩:=he;obtain ⟨n,hn,e⟩:=vU (h:=h) hm hj;obtain ⟨k,hk,pk,al⟩:=least (P:=λn=>¬ O (at' m h n)) n (by rw [e];exact no);exact ⟨k,by omega,pk,λi hi=>Classical.byContradiction λc=>al i hi c⟩
theorem pZ {m:Nat}{h:Int}:∀ n,at' m h n<=m:=by
 have key:∀ n,(ad m n (start m h)).j + (ad m n (start m h)).more<=m:=by
  have step:∀ p:SetTable.Probe,p.j + p.more<=m->(vd m p).j + (vd m p).more<=m:=λp hp=>by
   unfold vd;split
   ·dsimp only;omega
   ·dsimp only;have l:(SetTable.leap m p.i p.perturb).1<=m:=yP.mp (Nat.mod_lt _ (by omega));have:=dI (m:=m) (i:=(SetTable.leap m p.i p.perturb).1);have:=this.2.2 l;omega
  intro n;induction n with
  | zero=>
   show SetTable.bits h % (m + 1) + (SetTable.runEnd m (SetTable.bits h % (m + 1)) - SetTable.bits h % (m + 1))<=m;have l:SetTable.bits h % (m + 1)<=m:=yP.mp (Nat.mod_lt _ (by omega));have:=dI (m:=m) (i:=SetTable.bits h % (m + 1));have:=this.2.2 l;omega
  | succ n ih=>rw [iD];exact step _ ih
 intro n;have:=key n;unfold at';omega
end fN
namespace fN
open PySem
structure Tab (t:SetTable) (es:Array (Int×Value)):Prop where
 mask:Mask t.mask
 nd:t.dummies=#[]
 so:t.place.toList.Pairwise (· < ·)
 sz:t.place.size=es.size
 small:∀ j∈t.place.toList,j<=t.mask
 lX:es.size * 5 < t.mask * 3
 way:∀ i (h:i < es.size),∃ n,t.place[i]?=some (at' t.mask es[i].1 n)/\∀ n',n' < n->at' t.mask es[i].1 n'∈t.place.toList
theorem Tab.room {t:SetTable}{es:Array (Int×Value)}(T:Tab t es):es.size<=t.mask:=by have:=T.lX;omega
theorem Tab.fits {t:SetTable}{es:Array (Int×Value)}(T:Tab t es):t.fits es.size=true:=by unfold SetTable.fits SetTable.fill;have:=T.room;rw [T.sz,T.nd];simp;exact this
theorem Tab.odd {t:SetTable}{es:Array (Int×Value)}(T:Tab t es):t.gaveWay=false:=by unfold SetTable.gaveWay;rcases T.mask with h | h | h | h | h | h <;> rw [h] <;> rfl
theorem nN:∀ (n:Nat) (l:List Nat),(∀ j,j < n->j∈l)->n<=l.length
 | 0,_,_=>zY _
 | n + 1,l,h=>by
  have:=nN n (l.erase n) λj hj=>(List.mem_erase_of_ne (by omega)).mpr (h j (by omega));rw [List.length_erase_of_mem (h n (by omega))] at this;have:=List.length_pos_of_mem (h n (by omega));omega
theorem JP {l:List Nat}{m:Nat}(h:l.length<=m):∃ j,j<=m/\j ∉ l:=by refine Classical.byContradiction λc=>?_;have:=nN (m + 1) l λj hj=>Classical.byContradiction λz=>c ⟨j,by omega,z⟩;omega
theorem Tab.left {t:SetTable}{es:Array (Int×Value)}(T:Tab t es):∃ j,j<=t.mask/\¬ j∈t.place.toList:=by have:=JP (l:=t.place.toList) (m:=t.mask) (by rw [Array.length_toList,T.sz];exact T.room);exact this
theorem Tab.first {t:SetTable}{es:Array (Int×Value)}(T:Tab t es)(h:Int):∃ N,N<=10 * (t.mask + 13)/\¬ at' t.mask h N∈t.place.toList/\∀ n,n < N->at' t.mask h n∈t.place.toList:=rq h T.mask T.left
theorem KD {t:SetTable}{j:Nat}(h:j∈t.place.toList):∃ i:Nat,t.place[i]?=some j:=by obtain ⟨i,hi,e⟩:=List.getElem_of_mem h;exact ⟨i,by rw [<-Array.getElem?_toList,zI hi,e]⟩
theorem oM {t:SetTable}{es:Array (Int×Value)}(T:Tab t es){hashAt:Nat->Int}{h:Int}{N:Nat}(hN:¬ at' t.mask h N∈t.place.toList)(jw:∀ n,n < N->at' t.mask h n∈t.place.toList) :
  ∀ (d k fuel:Nat),N - k=d->k<=N->d < fuel ->
   (∃ n i,k<=n/\n < N/\t.place[i]?=some (at' t.mask h n)/\hashAt i=h/\(∀ n',k<=n'->n' < n->∀ i',t.place[i']?=some (at' t.mask h n')->hashAt i'≠h)/\SetTable.probe.go t hashAt h fuel (ad t.mask k (start t.mask h))=some (.candidate (at' t.mask h n) i (ad t.mask (n + 1) (start t.mask h)))) \/
   ((∀ n',k<=n'->n' < N->∀ i',t.place[i']?=some (at' t.mask h n')->hashAt i'≠h)/\SetTable.probe.go t hashAt h fuel (ad t.mask k (start t.mask h))=some (.empty (at' t.mask h N) none))
 | d,k,0,e,hk,hf=>absurd hf (zv _)
 | 0,k,fuel + 1,e,hk,hf=>by
  have:k=N:=by omega
  subst this;refine .inr ⟨λn' h1 h2=>absurd h1 (by omega),?_⟩;unfold SetTable.probe.go;rw [show (ad t.mask k (start t.mask h)).j=at' t.mask h k from rfl,qE T.nd hN];dsimp only;rw [p5];rfl
 | d + 1,k,fuel + 1,e,hk,hf=>by
  obtain ⟨i,hi⟩:=KD (jw k (by omega));by_cases c:hashAt i=h
  ·refine .inl ⟨k,i,zB _,by omega,hi,c,λn' h1 h2=>absurd h1 (by omega),?_⟩;unfold SetTable.probe.go;rw [show (ad t.mask k (start t.mask h)).j=at' t.mask h k from rfl,iP T.so hi];dsimp only;rw [if_pos (by rw [c];simp),kM,<- iD]
  ·have step:SetTable.probe.go t hashAt h (fuel + 1) (ad t.mask k (start t.mask h))=SetTable.probe.go t hashAt h fuel (ad t.mask (k + 1) (start t.mask h)):=by
    conv=>lhs;unfold SetTable.probe.go
    rw [show (ad t.mask k (start t.mask h)).j=at' t.mask h k from rfl,iP T.so hi];dsimp only;rw [if_neg (by simpa using c),kM,<- iD]
   have here:∀ i',t.place[i']?=some (at' t.mask h k)->hashAt i'≠h:=λi' f9=>by
    have:=(below_at T.so f9).symm.trans (below_at T.so hi);rw [this];exact c
   rw [step];rcases oM T hN jw d (k + 1) fuel (by omega) (by omega) (by omega) with ⟨n,i2,a1,a2,a3,a4,a5,a6⟩ | ⟨a1,a2⟩
   ·refine .inl ⟨n,i2,by omega,a2,a3,a4,λn' h1 h2 i' f9=>?_,a6⟩;by_cases q:n'=k
    ·subst q;exact here i' f9
    ·exact a5 n' (by omega) h2 i' f9
   ·refine .inr ⟨λn' h1 h2 i' f9=>?_,a2⟩;by_cases q:n'=k
    ·subst q;exact here i' f9
    ·exact a1 n' (by omega) h2 i' f9
end fN
namespace fN
open PySem
section
variable {prog:Program}{w:World}{K:Type} [DecidableEq K] {knd:HeapKind prog w K}{A:Around}{E:Value->Shared->Prop}{s:Shared}{a:Addr}
def RD (knd:HeapKind prog w K)(h:Heap)(es:Array (Int×Value))(ks:Nat->K):Prop:=∀ i (hi:i < es.size),∃ b,es[i]=(knd.hash (ks i),.ref b)/\knd.is h (ks i) b
def Calm (knd:HeapKind prog w K)(A:Around)(s:Shared):Prop:=∀ (k:K) (b:Addr),knd.is s.heap k b->∀ (E:Value->Shared->Prop) (Q:Bool->Shared->Prop),Q false s->wpAny (model prog w) A (ofAClassStatement 8 (.ref b)) Q E s
theorem JD {k:K}{c:Addr}(hk:knd.is s.heap k c)(cl:Calm knd A s):∀ (ys:List Value),(∀ y∈ys,∃ k b,y=.ref b/\knd.is s.heap k b)->∀ {Q:Bool->Shared->Prop},Q false s->wpAny (model prog w) A (searchCouldBeSeen (.ref c) ys) Q E s:=by
 intro ys hy Q q;unfold searchCouldBeSeen;refine wpAny_bind ?_;refine wpAny_forIn_list _ (λrest r s'=>r.1=none/\s'=s/\∀ y∈rest,∃ k b,y=.ref b/\knd.is s.heap k b) _ ?_ ?_ _ _ ⟨rfl,rfl,hy⟩
 ·rintro y rest r s' ⟨hr,rfl,jw⟩;obtain ⟨k2,b,rfl,hb⟩:=jw _ yJ;have next:∀ u∈rest,∃ k b,u=Value.ref b/\knd.is s'.heap k b:=λu hu=>jw u (zp _ hu);dsimp only;split
  ·exact wpAny_pure ⟨rfl,rfl,next⟩
  ·refine wpAny_bind (knd.quiet hk ?_);simp only [Bool.not_true,ze,if_false];refine wpAny_bind (knd.quiet hb ?_);simp only [Bool.not_true,ze,if_false];refine wpAny_bind (cl _ _ hk _ _ ?_);simp only [ze,if_false];refine wpAny_bind (cl _ _ hb _ _ ?_);simp only [ze,if_false];exact wpAny_pure ⟨rfl,rfl,next⟩
 ·rintro ⟨r1,r2⟩ s' ⟨hr,rfl,_⟩;simp only at hr;subst hr;exact wpAny_pure q
theorem search {o:Obj}{es:Array (Int×Value)}{ep:Nat}{t:SetTable}{ks:Nat->K}{kx:K}{c:Addr}{adding:Bool}{Q:SetFound->Shared->Prop}(hr:knd.room A)(ho:s.heap.get? a=some o)(hd:o.data=.set es ep t)(T:Tab t es)(ke:RD knd s.heap es ks)(hx:knd.is s.heap kx c)(cl:Calm knd A s)
  (qt:∀ r:Option Nat,(r=none->adding=true)->(∃ i,i < es.size/\ks i=kx)->Q (.there r) s) {N:Nat} (hN:¬ at' t.mask (knd.hash kx) N∈t.place.toList) (jw:∀ n,n < N->at' t.mask (knd.hash kx) n∈t.place.toList) (Z3:N<=10 * (t.mask + 13))
  (qf:(∀ i,i < es.size->ks i≠kx)->Q (.free (at' t.mask (knd.hash kx) N) false) s) :
  ∀ (fuel k:Nat) (st:Option SetTable.Probe),N - k < fuel->k<=N->st.getD (t.probeStart (knd.hash kx))=ad t.mask k (start t.mask (knd.hash kx))->(∀ n',n' < k->∀ i',t.place[i']?=some (at' t.mask (knd.hash kx) n')->ks i'≠kx) ->
   wpAny (model prog w) A (setSearchFrom a (.ref c) (knd.hash kx) adding fuel st) Q E s
 | 0,k,st,hf,_,_,_=>absurd hf (zv _)
 | fuel + 1,k,st,hf,hk,LX,prev=>by
  unfold setSearchFrom;refine wpAny_bind (wpAny_setState_of ho hd T.fits ?_);dsimp only;rw [T.odd,LX];simp only [ze,if_false];unfold SetTable.probe;rcases oM T hN jw (hashAt:=λi=>((es[i]?).map (·.1)).getD 0) _ k (10 * SetTable.turns t.mask) rfl hk (by unfold SetTable.turns;omega) with ⟨n,i,a1,a2,a3,a4,a5,a6⟩ | ⟨a1,a2⟩
  ·generalize hp:SetTable.probe.go t _ (knd.hash kx) (10 * SetTable.turns t.mask) (ad t.mask k (start t.mask (knd.hash kx)))=pr;have e:=hp.symm.trans a6;subst e;have hi:i < es.size:=by
    have:=(Array.getElem?_eq_some_iff.mp a3).1;rw [T.sz] at this;exact this
   obtain ⟨b,eb,hb⟩:=ke i hi;have eg:es[i]?=some (knd.hash (ks i),.ref b):=by rw [<-eb];exact Array.getElem?_eq_getElem hi
   dsimp only;rw [eg];dsimp only;have sl:=iP T.so a3;have mem:t.sameMemory t.moves t.mask=some true:=by simp [SetTable.sameMemory]
   have again:=search (adding:=adding) hr ho hd T ke hx cl qt hN jw Z3 qf fuel (n + 1) (some (ad t.mask (n + 1) (start t.mask (knd.hash kx)))) (by omega) (by omega) rfl;have more:ks i≠kx->∀ n',n' < n + 1->∀ i',t.place[i']?=some (at' t.mask (knd.hash kx) n')->ks i'≠kx:=λne n' hn i' f9=>by
    by_cases q:n' < k
    ·exact prev n' q i' f9
    by_cases q2:n'=n
    ·subst q2;have:=(below_at T.so f9).symm.trans (below_at T.so a3);rw [this];exact ne
    ·intro z;have hl:i' < es.size:=by
      have:=(Array.getElem?_eq_some_iff.mp f9).1;rw [T.sz] at this;exact this
     obtain ⟨b',V1,_⟩:=ke i' hl;exact a5 n' (by omega) (by omega) i' f9 (by simp [V1,hl,z])
   have stored:∀ y∈List.map (λx=>x.snd) (Array.filter (λx=>x.fst == knd.hash kx) es).toList,∃ k b,y=Value.ref b/\knd.is s.heap k b:=λy hy=>by
    obtain ⟨e,he,rfl⟩:=zS.mp hy;have he:e∈es:=by
     have:e∈es/\e.fst=knd.hash kx:=by simpa using he
     exact this.1
    obtain ⟨j,hj,rfl⟩:=Array.getElem_of_mem he;obtain ⟨b',V1,iJ⟩:=ke j hj;exact ⟨_,b',by rw [V1],iJ⟩
   split
   ·refine wpAny_bind (JD hx cl _ stored ?_);simp only [ze,if_false];refine wpAny_bind (wpAny_holding (knd.eqBool hr hb hx ?_));refine wpAny_bind (wpAny_setState_of ho hd T.fits ?_);dsimp only;rw [mem];dsimp only;rw [if_pos (show (true=true) from rfl),sl];dsimp only;rw [eg];dsimp only;by_cases q:ks i=kx
    ·rw [decide_eq_true q];cases adding with
     | true=>exact wpAny_pure (qt _ (λ_=>rfl) ⟨i,hi,q⟩)
     | false=>
      simp only [yL,ze,if_false];refine wpAny_bind (wpAny_isSame_ref_self ?_);exact wpAny_pure (qt _ (λz=>by cases z) ⟨i,hi,q⟩)
    ·rw [decide_eq_false q];simp only [yk,ze,if_false];refine wpAny_bind (wpAny_isSame_ref_self ?_);exact again (more q)
   ·refine wpAny_bind (wpAny_holding (knd.eqBool hr hb hx ?_));refine wpAny_bind (wpAny_setState_of ho hd T.fits ?_);dsimp only;rw [mem];dsimp only;rw [if_pos (show (true=true) from rfl),sl];dsimp only;rw [eg];dsimp only;by_cases q:ks i=kx
    ·rw [decide_eq_true q];cases adding with
     | true=>exact wpAny_pure (qt _ (λ_=>rfl) ⟨i,hi,q⟩)
     | false=>
      simp only [yL,ze,if_false];refine wpAny_bind (wpAny_isSame_ref_self ?_);exact wpAny_pure (qt _ (λz=>by cases z) ⟨i,hi,q⟩)
    ·rw [decide_eq_false q];simp only [yk,ze,if_false];refine wpAny_bind (wpAny_isSame_ref_self ?_);exact again (more q)
  ·generalize hp:SetTable.probe.go t _ (knd.hash kx) (10 * SetTable.turns t.mask) (ad t.mask k (start t.mask (knd.hash kx)))=pr;have e:=hp.symm.trans a2;subst e;dsimp only;refine wpAny_pure (qf λi hi z=>?_);obtain ⟨m,hm,al⟩:=T.way i hi;obtain ⟨b,eb,_⟩:=ke i hi;rw [eb] at hm al;dsimp only at hm al;rw [z] at hm al;have mN:m < N:=Classical.byContradiction λc=>by
    by_cases q:N=m
    ·subst q;exact hN (by simpa using Array.mem_of_getElem? hm)
    ·exact hN (al N (by omega))
   by_cases q:m < k
   ·exact prev m q i hm z
   ·refine a1 m (by omega) mN i hm ?_;simp [eb,hi,z]
structure Rx (knd:HeapKind prog w K) (h:Heap) (a:Addr) (es:Array (Int×Value)) (ep:Nat) (t:SetTable) (ks:Nat->K):Prop where
 obj:h.get? a=some { cls:=.type "set", data:=.set es ep t }
 tab:Tab t es
 keys:RD knd h es ks
end
end fN
namespace fN
open PySem
theorem j9 {α:Type}{l:List α}{p:Nat}{x:α}(hp:p<=l.length)(i:Nat):(l.take p++x::l.drop p)[i]?=if i < p then l[i]? else if i=p then some x else l[i - 1]?:=by
 have lt:(l.take p).length=p:=by rw [zk];omega
 by_cases c:i < p
 ·rw [if_pos c,zf (by omega),List.getElem?_take_of_lt c]
 ·rw [if_neg c,zW (by omega),lt];by_cases d:i=p
  ·rw [if_pos d,d,Nat.sub_self];rfl
  ·rw [if_neg d,show i - p=(i - p - 1) + 1 from by omega,yK,List.getElem?_drop];congr 1;omega
theorem Tab.put {t:SetTable}{es:Array (Int×Value)}(T:Tab t es){h:Int}{x:Value}{N:Nat}(hN:¬ at' t.mask h N∈t.place.toList)(jw:∀ n,n < N->at' t.mask h n∈t.place.toList)(pl:Bool) :
  (((es.size + 1) * 5 < t.mask * 3)->Tab { (t.put (at' t.mask h N)).1 with plain:=pl } (SetTable.insertAt es (t.put (at' t.mask h N)).2 (h,x)))/\(t.put (at' t.mask h N)).1.dummies=#[]/\(t.put (at' t.mask h N)).1.mask=t.mask/\(t.put (at' t.mask h N)).1.place.size=es.size + 1:=by
 have e1:(t.put (at' t.mask h N)).1={ t with place:=SetTable.insertAt t.place (SetTable.below t.place (at' t.mask h N)) (at' t.mask h N) }:=by
  unfold SetTable.put;dsimp only;rw [T.nd];unfold SetTable.has;simp
 have e2:(t.put (at' t.mask h N)).2=SetTable.below t.place (at' t.mask h N):=rfl;rw [e1,e2];generalize hj:at' t.mask h N=j at *;obtain ⟨b1,b2,b3⟩:=kJ (j:=j) T.so;generalize hp:SetTable.below t.place j=p at *;have lp:(SetTable.insertAt t.place p j).toList=t.place.toList.take p++j::t.place.toList.drop p:=SetTable.toList_insertAt ..;have le:(SetTable.insertAt es p (h,x)).toList=es.toList.take p++(h,x)::es.toList.drop p:=SetTable.toList_insertAt ..;have p1:p<=t.place.toList.length:=by rw [Array.length_toList];exact b1
 have p2:p<=es.toList.length:=by rw [Array.length_toList,<- T.sz];exact b1
 have s1:(SetTable.insertAt t.place p j).size=es.size + 1:=by
  rw [<-Array.length_toList,lp,zO,zZ,zk,zz,Array.length_toList,<- T.sz];omega
 have s2:(SetTable.insertAt es p (h,x)).size=es.size + 1:=by
  rw [<-Array.length_toList,le,zO,zZ,zk,zz,Array.length_toList];have:=T.sz;omega
 have mem:∀ j',j'∈(SetTable.insertAt t.place p j).toList↔j'=j\/j'∈t.place.toList:=λj'=>by
  rw [lp,zQ,zP];constructor
  ·rintro (h | h | h)
   ·exact .inr (List.mem_of_mem_take h)
   ·exact .inl h
   ·exact .inr (List.mem_of_mem_drop h)
  ·rintro (h | h)
   ·exact .inr (.inl h)
   ·rw [<-List.take_append_drop p t.place.toList,zQ] at h;exact h.imp id .inr
 refine ⟨λlX=>⟨T.mask,T.nd,?_,by rw [s2];exact s1,λj' kR=>?_,by rw [s2];exact lX,λi hi=>?_⟩,T.nd,rfl,s1⟩
 ·show (SetTable.insertAt t.place p j).toList.Pairwise (· < ·);rw [lp,List.pairwise_append,List.pairwise_cons];refine ⟨T.so.sublist (List.take_sublist _ _),⟨λy hy=>?_,T.so.sublist (List.drop_sublist _ _)⟩,λy hy z hz=>?_⟩
  ·obtain ⟨i,hi,e⟩:=List.getElem_of_mem hy;rw [List.getElem_drop] at e;have hl:p + i < t.place.size:=by rw [zz,Array.length_toList] at hi;omega
   have q:=b3 (p + i) hl (by omega);rw [Array.getElem_toList] at e;rw [e] at q;have ne:y≠j:=λz=>hN (by rw [<-z];exact List.mem_of_mem_drop hy);omega
  ·obtain ⟨i,hi,e⟩:=List.getElem_of_mem hy;rw [List.getElem_take] at e;rw [zk,Array.length_toList] at hi;have hl:i < t.place.size:=by omega
   have q:=b2 i hl (by omega);rw [Array.getElem_toList] at e;rw [e] at q;rcases zP.mp hz with z1 | z1
   ·rw [z1];exact q
   ·obtain ⟨k,hk,ek⟩:=List.getElem_of_mem z1;rw [List.getElem_drop] at ek;have Om:p + k < t.place.size:=by rw [zz,Array.length_toList] at hk;omega
    have q2:=b3 (p + k) Om (by omega);rw [Array.getElem_toList] at ek;rw [ek] at q2;omega
 ·have kR:j'∈(SetTable.insertAt t.place p j).toList:=kR;rcases (mem j').mp kR with z | z
  ·rw [z,<- hj];exact pZ N
  ·exact T.small j' z
 ·show ∃ n,(SetTable.insertAt t.place p j)[i]?=some (at' t.mask (SetTable.insertAt es p (h,x))[i].1 n)/\∀ n',n' < n->at' t.mask (SetTable.insertAt es p (h,x))[i].1 n'∈(SetTable.insertAt t.place p j).toList;have ge:(SetTable.insertAt es p (h,x))[i]?=some (SetTable.insertAt es p (h,x))[i]:=Array.getElem?_eq_getElem hi;generalize (SetTable.insertAt es p (h,x))[i]=e at ge ⊢;rw [<-Array.getElem?_toList,le,j9 p2] at ge;rw [<-Array.getElem?_toList,lp,j9 p1,<- lp];have old:∀ k,es.toList[k]?=some e->∃ n,t.place.toList[k]?=some (at' t.mask e.1 n)/\∀ n',n' < n->at' t.mask e.1 n'∈(SetTable.insertAt t.place p j).toList:=λk hk=>by
   rw [Array.getElem?_toList] at hk;obtain ⟨QZ,ek⟩:=Array.getElem?_eq_some_iff.mp hk;obtain ⟨n,a1,a2⟩:=T.way k QZ;rw [ek] at a1 a2;exact ⟨n,by rw [Array.getElem?_toList];exact a1,λn' hn=>(mem _).mpr (.inr (a2 n' hn))⟩
  by_cases c:i < p
  ·rw [if_pos c] at ge ⊢;exact old i ge
  ·rw [if_neg c] at ge ⊢;by_cases d:i=p
   ·rw [if_pos d] at ge ⊢;cases ge;exact ⟨N,by rw [hj],λn' hn=>(mem _).mpr (.inr (jw n' hn))⟩
   ·rw [if_neg d] at ge ⊢;exact old (i - 1) ge
def sj (ow:Array (Option Nat))(j:Nat):Prop:=(ow.getD j (some 0)).isNone=false
theorem mh {m:Nat}{ow:Array (Option Nat)}:∀ (fuel i u:Nat),(∃ r,r < fuel/\¬ sj ow (runs m r i u).1) ->
  ∃ n,SetTable.layClean.free m ow fuel i u=some (ad m n (run m i u)).j/\¬ sj ow (ad m n (run m i u)).j/\∀ n',n' < n->sj ow (ad m n' (run m i u)).j
 | 0,i,u,⟨r,h,_⟩=>absurd h (zv _)
 | fuel + 1,i,u,⟨r,h,no⟩=>by
  unfold SetTable.layClean.free;cases e:(List.range (SetTable.runEnd m i + 1 - i)).find? λk=>(ow.getD (i + k) (some 0)).isNone with
  | some k=>
   dsimp only;obtain ⟨hk,cY,before⟩:=List.find?_range_eq_some.mp e;have cY:k < SetTable.runEnd m i + 1 - i:=zj.mp cY;have inr:∀ k',k'<=k->(ad m k' (run m i u)).j=i + k':=λk' QZ=>by rw [fX k' (by omega)]
   refine ⟨k,by rw [inr k (zB _)],?_,λn' hn=>?_⟩
   ·rw [inr k (zB _)];unfold sj;rw [hk];simp
   ·rw [inr n' (by omega)];unfold sj;have:=before n' hn;simpa using this
  | none=>
   dsimp only;have all:∀ k,k < SetTable.runEnd m i + 1 - i->sj ow (i + k):=λk hk=>by
    have:=List.find?_eq_none.mp e k (zj.mpr hk);unfold sj;cases q:(ow.getD (i + k) (some 0)).isNone with
    | false=>rfl
    | true=>exact absurd q this
   have r0:r≠0:=λz=>by
    subst z;refine no ?_;exact all 0 (by have:=(dI (m:=m) (i:=i)).2.1;omega)
   obtain ⟨r',rfl⟩:=Nat.exists_eq_succ_of_ne_zero r0;obtain ⟨n,a1,a2,a3⟩:=mh fuel ((i * 5 + 1 + u / 32) % (m + 1)) (u / 32) ⟨r',by omega,no⟩;have next:∀ n',ad m (SetTable.runEnd m i - i + 1 + n') (run m i u)=ad m n' (run m ((i * 5 + 1 + u / 32) % (m + 1)) (u / 32)):=λn'=>by rw [KH,jm]
   refine ⟨SetTable.runEnd m i - i + 1 + n,?_,?_,λn' hn=>?_⟩
   ·rw [next];exact a1
   ·rw [next];exact a2
   ·by_cases c:n' < SetTable.runEnd m i - i + 1
    ·rw [fX n' (by omega)];exact all n' (by have:=(dI (m:=m) (i:=i)).2.1;omega)
    ·rw [show n'=SetTable.runEnd m i - i + 1 + (n' - (SetTable.runEnd m i - i + 1)) from by omega,next];exact a3 _ (by omega)
structure Lay (m:Nat) (hs:List Int) (ow:Array (Option Nat)):Prop where
 sz:ow.size=m + 1
 each:∀ (k:Nat) (h:Int),hs[k]?=some h->∃ n,ow[at' m h n]?=some (some k)/\∀ n',n' < n->sj ow (at' m h n')
 low:∀ (j k:Nat),ow[j]?=some (some k)->k < hs.length
 one:∀ (j j' k:Nat),ow[j]?=some (some k)->ow[j']?=some (some k)->j=j'
theorem ie {ow:Array (Option Nat)}{j:Nat}(h:j < ow.size):sj ow j↔∃ k,ow[j]?=some (some k):=by unfold sj;rw [show ow.getD j (some 0)=ow[j] from by simp [Array.getD,h],Array.getElem?_eq_getElem h];cases ow[j] <;> simp
theorem Lay.left {m:Nat}{hs:List Int}{ow:Array (Option Nat)}(L:Lay m hs ow)(kT:hs.length<=m):∃ j,j<=m/\¬ sj ow j:=by
 refine Classical.byContradiction λc=>?_;have all:∀ j,j < m + 1->∃ k,ow[j]?=some (some k):=λj hj=>(ie (by rw [L.sz];exact hj)).mp (Classical.byContradiction λz=>c ⟨j,by omega,z⟩);have pick:∀ k,∃ j,k < hs.length->ow[j]?=some (some k):=λk=>by
  by_cases hk:k < hs.length
  ·obtain ⟨n,a,_⟩:=L.each k hs[k] (zI hk);exact ⟨_,λ_=>a⟩
  ·exact ⟨0,λz=>absurd z hk⟩
 have:=nN (m + 1) ((List.range hs.length).map λk=>(pick k).choose) λj hj=>by
  obtain ⟨k,hk⟩:=all j hj;have kl:=L.low j k hk;exact zS.mpr ⟨k,zj.mpr kl,L.one _ _ _ ((pick k).choose_spec kl) hk⟩
 rw [zA,yH] at this;omega
theorem Lay.step {m:Nat}{hs:List Int}{ow:Array (Option Nat)}(hm:Mask m)(L:Lay m hs ow)(kT:hs.length<=m)(h:Int) :
  ∃ j,SetTable.layClean.free m ow (SetTable.turns m) (SetTable.bits h % (m + 1)) (SetTable.bits h)=some j/\Lay m (hs++[h]) (ow.setIfInBounds j (some hs.length)):=by
 obtain ⟨j0,ZK,no⟩:=L.left kT;obtain ⟨r,hr,e⟩:=reach (u:=SetTable.bits h) hm (yP.mp (Nat.mod_lt (SetTable.bits h) (show 0 < m + 1 by omega))) (sU h) ZK;obtain ⟨n,a1,a2,a3⟩:=mh (m:=m) (ow:=ow) (SetTable.turns m) (SetTable.bits h % (m + 1)) (SetTable.bits h) ⟨r,by unfold SetTable.turns;omega,by rw [e];exact no⟩;have ej:(ad m n (run m (SetTable.bits h % (m + 1)) (SetTable.bits h))).j=at' m h n:=rfl;rw [ej] at a1 a2;have a3:∀ n',n' < n->sj ow (at' m h n'):=a3;have jl:at' m h n < ow.size:=by rw [L.sz];exact yP.mpr (pZ n)
 have get:∀ j,(ow.setIfInBounds (at' m h n) (some hs.length))[j]?=if at' m h n=j then some (some hs.length) else ow[j]?:=λj=>by
  rw [Array.getElem?_setIfInBounds];by_cases c:at' m h n=j
  ·rw [if_pos c,if_pos c,if_pos jl]
  ·rw [if_neg c,if_neg c]
 have keep:∀ j,sj ow j->j < ow.size->sj (ow.setIfInBounds (at' m h n) (some hs.length)) j:=λj oj hj=>by
  rw [ie (by rw [Array.size_setIfInBounds];exact hj),get];by_cases c:at' m h n=j
  ·exact ⟨_,by rw [if_pos c]⟩
  ·rw [if_neg c];exact (ie hj).mp oj
 have free:∀ k,ow[at' m h n]?≠some (some k):=λk z=>a2 ((ie jl).mpr ⟨k,z⟩);refine ⟨_,a1,by rw [Array.size_setIfInBounds];exact L.sz,λk x hx=>?_,λj k hj=>?_,λj j' k h1 h2=>?_⟩
 ·by_cases c:k < hs.length
  ·rw [zf c] at hx;obtain ⟨n2,b1,b2⟩:=L.each k x hx;refine ⟨n2,?_,λn' hn=>keep _ (b2 n' hn) (by rw [L.sz];exact yP.mpr (pZ n'))⟩;rw [get,if_neg λz=>free k (by rw [z];exact b1)];exact b1
  ·rw [zW (by omega)] at hx;have:k - hs.length=0:=by
    have:=(zC.mp hx).1;simp at this;omega
   rw [this] at hx;cases hx;have:k=hs.length:=by omega
   subst this;exact ⟨n,by rw [get,if_pos rfl],λn' hn=>keep _ (a3 n' hn) (by rw [L.sz];exact yP.mpr (pZ n'))⟩
 ·rw [get] at hj;rw [zO,yR];split at hj
  ·cases hj;omega
  ·have:=L.low j k hj;omega
 ·rw [get] at h1 h2;split at h1 <;> split at h2
  ·rename_i x y;rw [<-x,<- y]
  ·cases h1;have:=L.low _ _ h2;omega
  ·cases h2;have:=L.low _ _ h1;omega
  ·exact L.one _ _ _ h1 h2
theorem oZ {m:Nat}(hm:Mask m):∀ (l hs:List Int) (ow:Array (Option Nat)),Lay m hs ow->hs.length + l.length<=m + 1 ->
  ∃ RV,l.foldl (λ(acc:Option (Array (Option Nat)×Nat)) h=>do
   let (owner,k) <- acc
   let j <- SetTable.layClean.free m owner (SetTable.turns m) (SetTable.bits h % (m + 1)) (SetTable.bits h)
   pure (owner.setIfInBounds j (some k),k + 1)) (some (ow,hs.length))=some (RV,hs.length + l.length)/\Lay m (hs++l) RV
 | [],hs,ow,L,_=>⟨ow,rfl,by rw [yp];exact L⟩
 | h::l,hs,ow,L,kT=>by
  obtain ⟨j,e,L'⟩:=L.step hm (by rw [zZ] at kT;omega) h;have VV:(hs++[h]).length + l.length<=m + 1:=by rw [zO,yR];rw [zZ] at kT;omega
  obtain ⟨RV,e2,L2⟩:=oZ hm l (hs++[h]) _ L' VV;refine ⟨RV,?_,by rw [List.append_assoc] at L2;exact L2⟩;rw [List.foldl_cons];show l.foldl _ ((SetTable.layClean.free m ow (SetTable.turns m) (SetTable.bits h % (m + 1)) (SetTable.bits h)).bind λj=>some (ow.setIfInBounds j (some hs.length),hs.length + 1))=_;rw [e];rw [zO,yR] at e2;rw [zZ];rw [show hs.length + (l.length + 1)=hs.length + 1 + l.length from by omega];exact e2
theorem uw {m:Nat}(hm:Mask m){hashes:Array Int}(kT:hashes.size<=m + 1):∃ ow,SetTable.layClean m hashes=some ow/\Lay m hashes.toList ow:=by have L0:Lay m [] (Array.replicate (m + 1) none):=⟨by simp,λk h e=>(by cases e),(λj k e=>by rw [Array.getElem?_replicate] at e;split at e <;> cases e),(λj j' k e=>by rw [Array.getElem?_replicate] at e;split at e <;> cases e)⟩;obtain ⟨ow,e,L⟩:=oZ hm hashes.toList [] _ L0 (by rw [yI,Array.length_toList];omega);refine ⟨ow,?_,by simpa using L⟩;unfold SetTable.layClean;rw [<-Array.foldl_toList];have:=congrArg (Option.map (·.1)) e;exact this
theorem LA {l l':List Nat}(h:l.Nodup)(h':l'.Nodup)(e:∀ x,x∈l↔x∈l'):l.Perm l':=by
 rw [List.perm_iff_count];intro a;rw [h.count,h'.count];by_cases c:a∈l
 ·rw [if_pos c,if_pos ((e a).mp c)]
 ·rw [if_neg c,if_neg λz=>c ((e a).mpr z)]
theorem nk {α β:Type}{f:α->Option β}{g:α->β}:∀ {l:List α},(∀ x∈l,f x=some (g x))->l.filterMap f=l.map g
 | [],_=>rfl
 | x::l,h=>by
  rw [List.filterMap_cons_some (h x yJ),za,nk λy hy=>h y (zp _ hy)]
theorem nq {f:Nat->Option Nat}:∀ (l:List Nat),(l.filterMap λj=>(f j).map (j,·)).map (·.1)=l.filter λj=>(f j).isSome
 | []=>rfl
 | x::l=>by
  cases e:f x with
  | none=>rw [List.filterMap_cons_none (by rw [e];rfl),List.filter_cons_of_neg (by rw [e];simp),nq l]
  | some k=>rw [List.filterMap_cons_some (b:=(x,k)) (by rw [e];rfl),List.filter_cons_of_pos (by rw [e];rfl),za,nq l]
theorem oE {t:SetTable}{es:Array (Int×Value)}{wanted m:Nat}(hw:SetTable.sizeAbove wanted - 1=m)(hm:Mask m)(lX:es.size * 5 < m * 3) :
  ∃ t' order,t.relaid (es.map (·.1)) wanted=some (t',order)/\(order.filterMap (es[·]?)).toList.Perm es.toList/\Tab t' (order.filterMap (es[·]?)):=by
 obtain ⟨ow,e,L⟩:=uw (hashes:=es.map (·.1)) hm (by rw [Array.size_map];omega);have lh:(es.map (·.1)).toList.length=es.size:=by rw [Array.length_toList,Array.size_map]
 have hh:∀ (k:Nat) (x:Int×Value),es[k]?=some x->(es.map (·.1)).toList[k]?=some x.1:=λk x hx=>by rw [Array.getElem?_toList,Array.getElem?_map,hx];rfl
 let lv:=(List.range (m + 1)).filterMap λj=>(ow.getD j none).map (j,·)
 have e2:t.relaid (es.map (·.1)) wanted=some ({ mask:=m,place:=(lv.map (·.1)).toArray,dummies:=#[],finger:=t.finger,led:=t.led,moves:=t.movedTo m,plain:=t.plain },(lv.map (·.2)).toArray):=by
  unfold SetTable.relaid SetTable.laid;rw [hw,e];rfl
 have f1:lv.map (·.1)=(List.range (m + 1)).filter λj=>(ow.getD j none).isSome:=nq _;have f2:∀ p∈lv,ow[p.1]?=some (some p.2)/\p.1<=m:=λp hp=>by
  obtain ⟨j,hj,q⟩:=yb.mp hp;have hj:j < m + 1:=zj.mp hj;have hs:j < ow.size:=by rw [L.sz];exact hj
  rw [show ow.getD j none=ow[j] from by simp [Array.getD,hs]] at q;cases eo:ow[j] with
  | none=>rw [eo] at q;cases q
  | some k=>rw [eo] at q;cases q;exact ⟨by rw [Array.getElem?_eq_getElem hs,eo],by show j<=m;omega⟩
 have f3:∀ j k,ow[j]?=some (some k)->(j,k)∈lv:=λj k h=>by
  obtain ⟨hs,eo⟩:=Array.getElem?_eq_some_iff.mp h;refine yb.mpr ⟨j,zj.mpr (by rw [L.sz] at hs;exact hs),?_⟩;rw [show ow.getD j none=ow[j] from by simp [Array.getD,hs],eo];rfl
 have Wu:(lv.map (·.1)).Pairwise (· < ·):=by rw [f1];exact List.pairwise_lt_range.filter _
 have Yt:lv.Pairwise λa b=>a.1 < b.1:=yx.mp Wu;have nd:(lv.map (·.2)).Nodup:=by
  refine yx.mpr (Yt.imp_of_mem λ{a b} ha hb h z=>?_);have:=L.one _ _ _ (f2 a ha).1 (by rw [z];exact (f2 b hb).1);omega
 have kl:∀ p∈lv,p.2 < es.size:=λp hp=>by have:=L.low _ _ (f2 p hp).1;rw [lh] at this;exact this
 have pm:(lv.map (·.2)).Perm (List.range es.size):=LA nd List.nodup_range λk=>by
  constructor
  ·intro h;obtain ⟨p,hp,rfl⟩:=zS.mp h;exact zj.mpr (kl p hp)
  ·intro h;have hk:k < es.size:=zj.mp h;obtain ⟨n,a,_⟩:=L.each k es[k].1 (hh k _ (Array.getElem?_eq_getElem hk));exact zS.mpr ⟨_,f3 _ _ a,rfl⟩
 let g:Nat->Int×Value:=λk=>(es[k]?).getD (0,Value.none)
 have gk:∀ k,k < es.size->es[k]?=some (g k):=λk hk=>by show es[k]?=some ((es[k]?).getD _);rw [Array.getElem?_eq_getElem hk];rfl
 have e3:((lv.map (·.2)).toArray.filterMap (es[·]?)).toList=lv.map λp=>g p.2:=by
  rw [Array.toList_filterMap,List.filterMap_map];exact nk λp hp=>gk p.2 (kl p hp)
 have e4:es.toList=(List.range es.size).map g:=by
  have:=filterMap_getElem?_range es;rw [nk (g:=g) λk hk=>gk k (zj.mp hk)] at this;exact this.symm
 refine ⟨_,_,e2,?_,?_⟩
 ·rw [e3,e4,show (λp:Nat×Nat=>g p.2)=g ∘ (·.2) from rfl,<- yC];exact pm.map g
 ·have sz:((lv.map (·.2)).toArray.filterMap (es[·]?)).size=lv.length:=by rw [<-Array.length_toList,e3,zA]
  have ll:lv.length=es.size:=by have:=pm.length_eq;rw [zA,yH] at this;exact this
  refine ⟨hm,rfl,by simpa using Wu,by rw [sz];simp,λj hj=>?_,by rw [sz,ll];exact lX,λi hi=>?_⟩
  ·have hj:j∈lv.map (·.1):=by simpa using hj
   obtain ⟨p,hp,rfl⟩:=zS.mp hj;exact (f2 p hp).2
  ·have ge:((lv.map (·.2)).toArray.filterMap (es[·]?))[i]?=some ((lv.map (·.2)).toArray.filterMap (es[·]?))[i]:=Array.getElem?_eq_getElem hi;generalize ((lv.map (·.2)).toArray.filterMap (es[·]?))[i]=x at ge ⊢;rw [<-Array.getElem?_toList,e3,zG] at ge;cases ep:lv[i]? with
   | none=>rw [ep] at ge;cases ge
   | some p=>
    rw [ep] at ge;have ge:g p.2=x:=Option.some.inj ge;have hp:=zD ep;have hx:=gk p.2 (kl p hp);rw [ge] at hx;obtain ⟨n,a1,a2⟩:=L.each p.2 x.1 (hh p.2 x hx);have ej:=L.one _ _ _ a1 (f2 p hp).1;refine ⟨n,?_,λn' hn=>?_⟩
    ·show ((lv.map (·.1)).toArray)[i]?=some (at' m x.1 n);rw [List.getElem?_toArray,zG,ep,ej];rfl
    ·show at' m x.1 n'∈((lv.map (·.1)).toArray).toList;obtain ⟨k,hk⟩:=(ie (by rw [L.sz];exact yP.mpr (pZ n'))).mp (a2 n' hn);simpa using ⟨k,f3 _ _ hk⟩
end fN
namespace fN
open PySem
section
variable {prog:Program}{w:World}{K:Type} [DecidableEq K] {knd:HeapKind prog w K}{A:Around}{E:Value->Shared->Prop}{s:Shared}{a:Addr}
def MX (knd:HeapKind prog w K):Prop:=∀ (A:Around) (s:Shared) (k:K) (b:Addr),knd.is s.heap k b->∀ (E:Value->Shared->Prop) (Q:Bool->Shared->Prop),(∀ v,Q v s)->wpAny (model prog w) A (hashByValue 8 (.ref b)) Q E s
def nO (es:Array (Int×Value))(ep:Nat)(t:SetTable):Obj:={ cls:=.type "set", data:=.set es ep t }
theorem store {es lD:Array (Int×Value)}{ep:Nat}{t t':SetTable}{Q:Unit->Shared->Prop}(ho:s.heap.get? a=some (nO es ep t))(hz:lD.size<=sizeLine)
  (h:∀ h',Heap.SameBut a s.heap h'->h'.get? a=some (nO lD (ep + 1) t')->Q () { s with heap:=h' }):wpAny (model prog w) A (storeSet a lD t') Q E s:=by
 refine wpAny_storeSet_of ho rfl (h _ (Heap.SameBut.update s.heap a (Obj.putSet lD t')) ?_) hz;have:=Heap.get?_update_self (Obj.putSet lD t') ho (by rw [putSet_of lD t' rfl];rfl);rw [putSet_of lD t' rfl] at this;exact this
theorem qY {n m:Nat}(hm:Mask m)(lt:(n - 1) * 5 < m * 3)(n1:1<=n)(full:n * 5 ≥ m * 3)(kT:n<=4000):Mask (SetTable.sizeAbove (SetTable.grown n) - 1)/\n * 5 < (SetTable.sizeAbove (SetTable.grown n) - 1) * 3/\SetTable.sizeAbove (SetTable.grown n)<=8192:=by
 rcases hm with rfl | rfl | rfl | rfl | rfl | rfl
 ·have:n=5:=by omega
  subst this;exact ⟨.inr (.inl (by decide +kernel)),by decide +kernel,by decide +kernel⟩
 ·have:n=19:=by omega
  subst this;exact ⟨.inr (.inr (.inl (by decide +kernel))),by decide +kernel,by decide +kernel⟩
 ·have:n=77:=by omega
  subst this;exact ⟨.inr (.inr (.inr (.inl (by decide +kernel)))),by decide +kernel,by decide +kernel⟩
 ·have:n=307:=by omega
  subst this;exact ⟨.inr (.inr (.inr (.inr (.inl (by decide +kernel))))),by decide +kernel,by decide +kernel⟩
 ·have:n=1229:=by omega
  subst this;exact ⟨.inr (.inr (.inr (.inr (.inr (by decide +kernel))))),by decide +kernel,by decide +kernel⟩
 ·omega
theorem add {es:Array (Int×Value)}{ep:Nat}{t:SetTable}{ks:Nat->K}{kx:K}{c:Addr}{Q:Bool->Shared->Prop}(hr:knd.room A)(S:Rx knd s.heap a es ep t ks)(hx:knd.is s.heap kx c)(cl:Calm knd A s)(hb:MX knd)(kT:es.size < 4000)
  (qt:(∃ i,i < es.size/\ks i=kx)->Q false s)
  (qf:∀ (h':Heap) (lD:Array (Int×Value)) (OO:Nat) (t':SetTable),(∀ i,i < es.size->ks i≠kx)->Heap.SameBut a s.heap h'->h'.get? a=some (nO lD OO t')->Tab t' lD->lD.toList.Perm (es.toList++[(knd.hash kx,.ref c)])->Q true { s with heap:=h' }) :
  wpAny (model prog w) A (setAddHashed a (.ref c) (knd.hash kx)) Q E s:=by
 obtain ⟨N,n1,n2,n3⟩:=S.tab.first (knd.hash kx);have line:10000<=sizeLine:=by rw [sizeLine_eq];decide
 unfold setAddHashed setAddHashedIn;refine wpAny_holding (wpAny_bind (wpAny_setState_of S.obj rfl S.tab.fits ?_));dsimp only;rw [show byScan (.ref c) es=false from rfl];simp only [ze,if_false];refine wpAny_bind ?_;unfold setSearch;have lim:10 * (t.mask + 13) < 100000:=by
  rcases S.tab.mask with h | h | h | h | h | h <;> rw [h] <;> decide
 refine search hr S.obj rfl S.tab S.keys hx cl (λr h f=>?_) n2 n3 n1 (λnf=>?_) 100000 0 none (by omega) (zY _) rfl (λn' h=>absurd h (zv _))
 ·exact wpAny_pure (qt f)
 ·dsimp only;refine wpAny_bind (wpAny_setState_of S.obj rfl S.tab.fits ?_);dsimp only;have m7:7<=t.mask:=by rcases S.tab.mask with h | h | h | h | h | h <;> omega
  have lt:=S.tab.lX;have uN:SetTable.tooFull=λt=>decide (t.fill * 5 ≥ t.mask * 3):=rfl;have tail:∀ tt,(∃ pl,tt={ (t.put (at' t.mask (knd.hash kx) N)).1 with plain:=pl })->wpAny (model prog w) A (do
    storeSet a (SetTable.insertAt es (t.put (at' t.mask (knd.hash kx) N)).2 (knd.hash kx,Value.ref c)) tt
    if (!false && tt.tooFull)=true then do
     setRelay a (SetTable.grown (es.size + 1))
     pure true
    else pure true) Q E s:=by
   rintro tt ⟨pl,rfl⟩;obtain ⟨pt,pd,pm,ps⟩:=S.tab.put (x:=Value.ref c) n2 n3 pl;have pp:=SetTable.insertAt_perm es (t.put (at' t.mask (knd.hash kx) N)).2 (knd.hash kx,Value.ref c);rw [Array.toList_push] at pp;have sz:(SetTable.insertAt es (t.put (at' t.mask (knd.hash kx) N)).2 (knd.hash kx,Value.ref c)).size=es.size + 1:=by
    have:=pp.length_eq;rw [Array.length_toList,zO,Array.length_toList,yR] at this;exact this
   generalize (t.put (at' t.mask (knd.hash kx) N)).1=T1 at pt pd pm ps ⊢;generalize SetTable.insertAt es (t.put (at' t.mask (knd.hash kx) N)).2 (knd.hash kx,Value.ref c)=ML at pt pp sz ⊢;have fit:({ T1 with plain:=pl }:SetTable).fits ML.size=true:=by
    unfold SetTable.fits SetTable.fill;dsimp only;rw [ps,pd,sz,pm];simp;omega
   refine wpAny_bind (store S.obj (by omega) λh' sb go=>?_);have full:({ T1 with plain:=pl }:SetTable).tooFull=decide ((es.size + 1) * 5 ≥ t.mask * 3):=by
    unfold SetTable.tooFull SetTable.fill;dsimp only;rw [ps,pd,pm];rfl
   rw [full];by_cases c:(es.size + 1) * 5 ≥ t.mask * 3
   ·rw [decide_eq_true c];simp only [Bool.not_false,Bool.and_self,if_true];obtain ⟨gm,gl,gz⟩:=qY S.tab.mask (by rw [Nat.add_sub_cancel];exact lt) (by omega) c (by omega);obtain ⟨t2,order,er,pr,T2⟩:=oE (t:={ T1 with plain:=pl }) (es:=ML) rfl gm (by rw [sz];exact gl);refine wpAny_bind ?_;unfold setRelay;refine wpAny_bind (wpAny_setState_of (s:={ s with heap:=h' }) go rfl fit ?_);dsimp only;rw [if_neg (by omega)];refine wpAny_bind ?_;rw [er];show wpAny (model prog w) A (if ((order.filterMap (ML[·]?)).size != ML.size)=true then _ else _) _ _ _;have s2:(order.filterMap (ML[·]?)).size=ML.size:=by have:=pr.length_eq;rw [Array.length_toList,Array.length_toList] at this;exact this
    rw [if_neg (by rw [s2];simp)];refine wpAny_pure ?_;dsimp only;refine store (s:={ s with heap:=h' }) go (by rw [s2];omega) λh2 Yx go2=>?_;exact wpAny_pure (qf h2 _ _ _ nf (sb.trans Yx) go2 T2 (pr.trans pp))
   ·rw [decide_eq_false c];simp only [Bool.not_false,yk,ze,if_false];exact wpAny_pure (qf h' _ _ _ nf sb go (pt (by omega)) pp)
  split
  ·refine wpAny_bind (hb _ _ _ _ hx _ _ λv=>tail _ ?_);cases v with
   | true=>exact ⟨(t.put (at' t.mask (knd.hash kx) N)).1.plain,rfl⟩
   | false=>exact ⟨false,rfl⟩
  ·refine wpAny_bind (wpAny_pure (tail _ ⟨(t.put (at' t.mask (knd.hash kx) N)).1.plain,rfl⟩))
end
end fN
namespace fN
open PySem PySem.Spec
def Kp (h0 h:Heap):Prop:=∀ b o,h0.get? b=some o->h.get? b=some o
section
variable {prog:Program}{w:World}{K:Type} [DecidableEq K] [Inhabited K] {knd:HeapKind prog w K}
def Holds (knd:HeapKind prog w K)(h:Heap)(a:Addr)(xs:List (Addr×K)):Prop:=∃ es ep t,h.get? a=some (nO es ep t)/\Tab t es/\es.toList.Perm (xs.map λx=>(knd.hash x.2,Value.ref x.1))
theorem Holds.Um {h:Heap}{a:Addr}{xs:List (Addr×K)}(H:Holds knd h a xs)(hk:∀ x∈xs,knd.is h x.2 x.1):∃ es ep t ks,Rx knd h a es ep t ks/\es.toList.Perm (xs.map λx=>(knd.hash x.2,Value.ref x.1))/\es.size=xs.length/\∀ i,i < es.size->ks i∈xs.map (·.2):=by
 obtain ⟨es,ep,t,ho,T,pm⟩:=H;have ln:es.size=xs.length:=by have:=pm.length_eq;rw [Array.length_toList,zA] at this;exact this
 have pick:∀ i,∃ x:Addr×K,i < es.size->x∈xs/\es[i]?=some (knd.hash x.2,Value.ref x.1):=λi=>by
  by_cases hi:i < es.size
  ·have:=pm.mem_iff.mp (show es[i]∈es.toList from by simp);obtain ⟨x,hx,e⟩:=zS.mp this;exact ⟨x,λ_=>⟨hx,by rw [Array.getElem?_eq_getElem hi,<- e]⟩⟩
  ·exact ⟨(0,default),λz=>absurd z hi⟩
 refine ⟨es,ep,t,λi=>((pick i).choose).2,⟨ho,T,λi hi=>?_⟩,pm,ln,λi hi=>zS.mpr ⟨_,((pick i).choose_spec hi).1,rfl⟩⟩;obtain ⟨h1,h2⟩:=(pick i).choose_spec hi;exact ⟨_,Option.some.inj ((Array.getElem?_eq_getElem hi).symm.trans h2),hk _ h1⟩
theorem Holds.move {h h':Heap}{a:Addr}{xs:List (Addr×K)}(H:Holds knd h a xs)(k:∀ o,h.get? a=some o->h'.get? a=some o):Holds knd h' a xs:=by obtain ⟨es,ep,t,ho,T,pm⟩:=H;exact ⟨es,ep,t,k _ ho,T,pm⟩
section
variable {A:Around}{R:Result->Shared->Prop}{I:Addr}{fp wr:List Addr}{G:Array GenState->Array GenState->Prop}{n:Nat}{P:Nat->Value->Prop}{St:Nat->Shared->Prop} {h0:Heap}{xs:List (Addr×K)}
theorem loop (W:WalksS prog w A.in1 I fp wr G n P St)(S:Addr)(Xv:S ∉ fp)(hr:knd.room A.in1)(cl:∀ B (s':Shared),Calm knd B s')(hb:MX knd)(f0:h0.get? S=none)(f1:∀ b∈wr,h0.get? b=none)(Zk:∀ h h' k b,Kp h h'->knd.is h k b->knd.is h' k b)
  (hn:xs.length=n) (kT:n < 4000) (nd:(xs.map (·.2)).Nodup) (hx:∀ x∈xs,knd.is h0 x.2 x.1) (hv:∀ i v,P i v->∃ x,xs[i]?=some x/\v=.ref x.1) :
  ∀ (k i:Nat) (s:Shared),n - i=k->i<=n->St i s->Kp h0 s.heap->Holds knd s.heap S (xs.take i) ->
   (∀ s',Moved (S::wr) G s s'->Holds knd s'.heap S xs->R (.ok (.ret .none)) s')->codeAny (model prog w) A (.builtin "set.update.loop" ⟨[.ref S,.ref I],[]⟩) R s:=by
 have Xu:S ∉ wr:=λh=>Xv (W.sub _ h);have sub:∀ b∈wr,b∈S::wr:=λb hb=>zp _ hb;intro k;induction k with
 | zero=>
  intro i s hk hi LX kp hS hR;obtain rfl:i=n:=by omega
  refine codeAny_builtin PyProof.Rows.F.entry_set_update_loop ?_;rw [Around.under_plainId PyProof.Rows.F.plain_set_update_loop _];show wpAny _ A.in1 (pyNext (.ref I) >>= _) _ _ s;refine wpAny_bind (W.done s _ _ LX λs' hm=>?_);show wpAny _ A.in1 (ret Value.none) _ _ s';rw [<-hn,yD] at hS;exact wpAny_pure (hR s' (hm.mono sub) (hS.move λo e=>hm.heap S o Xu e))
 | succ k ih=>
  intro i s hk hi LX kp hS hR;have lt:i < n:=by omega
  refine codeAny_builtin PyProof.Rows.F.entry_set_update_loop ?_;rw [Around.under_plainId PyProof.Rows.F.plain_set_update_loop _];show wpAny _ A.in1 (pyNext (.ref I) >>= _) _ _ s;refine wpAny_bind (W.item i s _ _ lt LX λv s' hP Vf hm=>?_);obtain ⟨x,U6,rfl⟩:=hv i v hP;have WX:Kp h0 s'.heap:=λb o e=>hm.heap b o (λz=>by rw [f1 b z] at e;cases e) (kp b o e);have Ox:Holds knd s'.heap S (xs.take i):=hS.move λo e=>hm.heap S o Xu e;have U0:∀ y∈xs,knd.is s'.heap y.2 y.1:=λy hy=>Zk _ _ _ _ WX (hx y hy);obtain ⟨es,ep,t,ks,T,pm,ez,mem⟩:=Ox.Um λy hy=>U0 y (List.mem_of_mem_take hy);have LV:=zD U6;show wpAny _ A.in1 (holding [Value.ref x.1] (setAdd S (.ref x.1)) >>= _) _ _ s';refine wpAny_bind (wpAny_holding ?_);unfold setAdd;refine wpAny_holding ?_;refine wpAny_bind (knd.pyHash hr (U0 x LV) ?_);refine add (s:={ s' with toks:=s'.toks + knd.draws x.2 }) hr ⟨T.obj,T.tab,T.keys⟩ (U0 x LV) (cl _ _) hb (by rw [ez,zk];omega) (λf=>?_) (λh' lD OO t' nf sb go T' YE=>?_)
  ·exfalso;obtain ⟨j,hj,e⟩:=f;have m1:=mem j hj;rw [e,List.map_take] at m1;obtain ⟨j',kR⟩:=List.getElem?_of_mem m1;rw [List.getElem?_take] at kR;split at kR
   ·rename_i lt';have e1:(xs.map (·.2))[i]?=some x.2:=by rw [zG,U6];rfl
    have:=(List.getElem?_inj (zC.mp kR).1 nd).mp (kR.trans e1.symm);omega
   ·cases kR
  ·have Zg:Kp h0 h':=λb o e=>by rw [sb.2 b (λz=>by rw [z,f0] at e;cases e)];exact WX b o e
   refine wpAny_pure ⟨plainId_quiet PyProof.Rows.F.plain_set_update_loop _,ih (i + 1) _ (by omega) lt (W.frame _ s' _ _ Vf (Nat.le_add_right _ _) λb iJ o e=>?_) Zg ⟨lD,OO,t',go,T',?_⟩ λlR Vo VL=>?_⟩
   ·rw [sb.2 b (λz=>Xv (by rw [<-z];exact iJ))];exact e
   ·rw [List.take_add_one,U6,zF];exact YE.trans (pm.append_right _)
   ·refine hR lR (Moved.trans W.gtrans ((hm.mono sub).then_heap (Nat.le_add_right _ _) λb o iJ e=>?_) Vo) VL;rw [sb.2 b (λz=>iJ (by rw [z];exact yJ))];exact e
end
section
variable {A:Around}{E:Value->Shared->Prop}{s:Shared}{xs:List (Addr×K)}
end
end
end fN
namespace L2
open PySem PySem.Spec PyProof.Rows
section
variable {X:Cx}
def oV:Option Int->V
 | none=>.bG
 | some i=>.int i
end
end L2
namespace Sm
open PySem L2 aU
def Th (H:Hp)(x:V)(r:Option (List V)):Prop:=
 (∃ t,lN H x=some t/\t ≠ "tuple" /\ r=none)\/(∃ a xs,x=.ref a/\H a=some (.tup xs)/\(∀ e∈xs,∃ t,lN H e=some t)/\r=some xs)
def isLet (w:Int):Option (List V)->Bool
 | some [a,b,c,d]=>nV 0 (w - 1) a && (nV 0 1000000000 b && (nV 0 (w - 1) c && nV 0 1000000000 d))
 | _=>false
def qz:Sp:=λvs H Q _=>∃ b x t af tr tm ps,vs=[.ref b,x]/\aL H b af tr tm ps/\lN H x=some t/\Q (.bl (nV 0 ((af.length:Int) - 1) x)) H
def qA:Sp:=λvs H Q _=>∃ b x r af tr tm ps,vs=[.ref b,x]/\aL H b af tr tm ps/\Th H x r/\Q (.bl (isLet af.length r)) H
theorem jz {H:Hp}{l:Addr}{xs:List V}(h:H l=some (.tup xs)):lN H (.ref l)=some "tuple" := by simp only [lN,h]
theorem eL {n k:Nat}(h:k < n):JT n (k:Int)=some k:=by unfold JT;rw [if_pos (by omega),if_pos (by omega)];simp
end Sm
namespace L2
open PySem PySem.Spec PyProof.Rows
theorem sf {α:Type}(l:List α):∀ n,n<=l.length->(List.range n).filterMap (λk=>l[k]?)=l.take n
 | 0,_=>by simp
 | n + 1,h=>by
  have hn:n < l.length:=h;rw [List.range_succ,List.filterMap_append,sf l n (by omega),List.take_add_one];simp [hn]
theorem pH {α β:Type}{f g:α->Option β}:∀ {l:List α},(∀ x∈l,f x=g x)->l.filterMap f=l.filterMap g
 | [],_=>rfl
 | x::l,h=>by
  rw [yj,yj,h x (.head _),pH λy hy=>h y (.tail _ hy)]
theorem vS {α:Type}(l:List α):((List.range l.length).map λk:Nat=>((l.length:Int) - 1 + -1 * (k:Int)).toNat).filterMap (λj=>l.toArray[j]?)=l.reverse:=by
 rw [List.filterMap_map];have h:=sf l.reverse l.length (by simp);rw [show l.reverse.take l.length=l.reverse from by rw [<-yY];exact yD] at h;rw [<-h];refine pH λk hk=>?_;have QZ:=zj.mp hk;have e:((l.length:Int) - 1 + -1 * (k:Int)).toNat=l.length - 1 - k:=by omega
 show l.toArray[((l.length:Int) - 1 + -1 * (k:Int)).toNat]?=_;rw [e,List.getElem?_reverse QZ];simp
theorem kX (au:List Value):slicePick au.toArray none none (some (-1))=au.reverse.toArray:=by
 unfold slicePick;have e:sliceBounds none none (some (-1)) au.toArray.size=((au.length:Int) - 1,-1,-1):=by
  unfold sliceBounds;simp
 rw [e];have r:sliceRange ((au.length:Int) - 1) (-1) (-1)=(List.range au.length).map λk:Nat=>((au.length:Int) - 1 + -1 * (k:Int)).toNat:=by
  unfold sliceRange;have c:(if (-1:Int) > 0 then (if (au.length:Int) - 1 < -1 then (-1 - ((au.length:Int) - 1) + -1 - 1) / -1 else 0) else (if (au.length:Int) - 1 > -1 then ((au.length:Int) - 1 - -1 - -1 - 1) / (- -1) else 0))=(au.length:Int):=by
   rw [if_neg (by decide)];have e1:(- -1:Int)=1:=by decide
   rw [e1,Int.ediv_one];split <;> omega
  simp only [c];simp
 rw [r];exact congrArg List.toArray (vS au)
section
variable {X:Cx}{e:Expr}{te:TE} {pos p2 p3 p4:Pos}{j:Nat}
def PN (K:PySem.W.Frag)(te:TE):TE:=fun σ H Q=>te σ H λx H1=>∃ a xs,x=.ref a/\aJ K H1 a xs/\∀ p,H1 p=none->Q (.ref p) (upd H1 p (.lst xs.reverse))
theorem mV {K:PySem.W.Frag}(hK:X.K=K)(he:PE X e te):PE X (.Subscript e (.Slice none none (some (.UnaryOp .USub (.Constant (.int 1) j p4) p3)) p2) pos) (PN K te):=by subst hK;intro aa s σ H Q I h;refine Subscript_ (aX (he aa s σ H _ I h) λv s1 ⟨x,H1,I1,r1,q1⟩=>?_);have st:PO X (some (.UnaryOp .USub (.Constant (.int 1) j p4) p3)) (lQ (Nf (rU λi=>.int (-i)) (tC (.int 1)))):=d9 (cJ wd xO);refine wpAny_Slice ?_;rw [evalPart_none];refine wpAny_pure (wpAny_pure ?_);refine aX (st aa s1 σ H1 (λo H'=>o=some (-1)/\H'=H1) I1 ⟨1,rfl,-1,rfl,rfl,rfl⟩) λvs s3 h3=>?_;obtain ⟨o,H',I3,ps,rfl,rfl⟩:=h3;have I4:Inv X aa σ H' { s3 with heap:=s3.heap.push { cls:=.type "slice", data:=.fields #[.none,.none,vs] } }:=I3.kept (t':=s3.toks) λb ob q=>Heap.get?_push_of_some _ q;obtain ⟨a,xs,rfl,hx,q⟩:=q1;cases r1;obtain ⟨au,r,ht,hz⟩:=I4.list hx;have hlen:=r.length;show wpAny (model X.prog X.w) X.A (subscriptTail e (.Slice none none (some (.UnaryOp .USub (.Constant (.int 1) j p4) p3)) p2) (.ref a) (.ref s3.heap.objs.size)) (EP X aa σ Q) X.xe { s3 with heap:=s3.heap.push { cls:=.type "slice", data:=.fields #[.none,.none,vs] } };refine tail_any (ops:=[.ref a,.ref s3.heap.objs.size]) ht.isList.typeIs slot_list_getitem.lookup ?_ (by with_unfolding_all rfl);refine wpAny_getItem_list_slice ht.isList (Heap.IsSliceOf.new ..) .none .none ps (by simp) ?_ (by rw [zM] <;> omega);rw [kX];refine ⟨.ref _,_,I4.laid (t':=s3.toks) (o:=.lst xs.reverse) (λb ob q=>Heap.get?_push_of_some _ q) (zB _) ?_,rfl,q _ (I4.br.fresh (zB _))⟩;exact ⟨by rw [yY];exact hz,_,0,r.reverse,Heap.get?_push_size _ rfl⟩
end
end L2
namespace Sm
open PySem L2 aU
abbrev Fn:=Nat->Option Int
def put (f:Fn)(k:Nat)(x:Option Int):Fn:=λi=>if i=k then x else f i
theorem wx {f:Fn}{k:Nat}{x:Option Int}:put f k x k=x:=by unfold put;rw [if_pos rfl]
theorem wT {f:Fn}{k i:Nat}{x:Option Int}(h:i≠k):put f k x i=f i:=by unfold put;rw [if_neg h]
def aC (k:Nat)(x:Int):Fn:=λi=>if i=k then some x else none
def below (o:Option Int)(t:Int):Bool:=match o with
 | some y=>decide (y < t)
 | none=>false
theorem aH {o:Option Int}{t:Int}:below o t=true↔∃ y,o=some y/\y < t:=by cases o <;> simp [below]
def bJ (o:Option Int)(t:Int):Bool:=match o with
 | some y=>decide (y<=t)
 | none=>false
theorem aK {o:Option Int}{t:Int}:bJ o t=true↔∃ y,o=some y/\y<=t:=by cases o <;> simp [bJ]
structure W3 where
 g:Nat
 o:Nat
 t:Int
def two (m:M4):List W3:=[⟨m.lo.toNat,m.hi.toNat,m.t⟩,⟨m.hi.toNat,m.lo.toNat,m.t⟩]
def aQ (ms:List M4):List W3:=ms.flatMap two
def aF (st:Fn)(x:W3):Fn:=if st x.o=none/\below (st x.g) x.t=true then put st x.o (some x.t) else st
def fwd (ms:List M4)(st:Fn):Fn:=(aQ ms).foldl aF st
theorem Ke (m:M4)(ms:List M4)(st:Fn):fwd (m::ms) st=fwd ms (aF (aF st ⟨m.lo.toNat,m.hi.toNat,m.t⟩) ⟨m.hi.toNat,m.lo.toNat,m.t⟩):=by unfold fwd aQ;rw [List.flatMap_cons,yy];rfl
theorem ki {st:Fn}{x:W3}{i:Nat}{y:Int}(h:st i=some y):aF st x i=some y:=by
 unfold aF;split
 ·rename_i c;by_cases e:i=x.o
  ·rw [e,c.1] at h;cases h
  ·rw [wT e];exact h
 ·exact h
theorem uJ {st:Fn}{x:W3}(hs:∀ i y,st i=some y->y<=x.t\/∀ j,st j≠none->j=i)(p9:x.g≠x.o):∀ i y,aF st x i=some y->y<=x.t\/∀ j,aF st x j≠none->j=i:=by
 unfold aF;split
 ·rename_i c;obtain ⟨z,hz,zt⟩:=aH.mp c.2;intro i y h;by_cases e:i=x.o
  ·rw [e,wx] at h;cases h;exact .inl (zq _)
  ·rw [wT e] at h;rcases hs i y h with q | q
   ·exact .inl q
   ·have:x.g=i:=q x.g (by rw [hz];simp);rw [<-this,hz] at h;cases h;exact .inl (by omega)
 ·exact hs
def Ord (t:Int)(ms:List M4):Prop:=(∀ m∈ms,t<=m.t/\m.lo.toNat≠m.hi.toNat)/\ms.Pairwise λa b=>a.t<=b.t
theorem Good.ord {w:Int}{ms:List M4}(g:Good w ms):Ord 1 ms:=by
 refine ⟨λm hm=>?_,g.order.imp λh=>?_⟩
 ·obtain ⟨a1,a2,a3,a4,_⟩:=g.each m hm;exact ⟨a4,by omega⟩
 ·rcases h with h | h
  ·omega
  ·omega
def rep (n:Nat)(f:Fn):List (Option Int):=(List.range n).map f
theorem wn (n:Nat)(f:Fn):(rep n f).length=n:=by simp [rep]
theorem jB {n k:Nat}{f:Fn}(h:k < n):(rep n f)[k]?=some (f k):=by simp [rep,h]
theorem wO {n k:Nat}{f:Fn}(h:k < n):((rep n f).map oV)[k]?=some (oV (f k)):=by rw [zG,jB h];rfl
theorem fQ {n k:Nat}{f:Fn}{x:Option Int}(h:k < n):(rep n f).set k x=rep n (put f k x):=by
 apply List.ext_getElem?
 intro i;rw [List.getElem?_set];by_cases e:k=i
 ·subst e;rw [if_pos rfl,if_pos (by rw [wn];exact h),jB h,wx]
 ·rw [if_neg e];by_cases hi:i < n
  ·rw [jB hi,jB hi,wT λz=>e z.symm]
  ·rw [List.getElem?_eq_none (by rw [wn];omega),List.getElem?_eq_none (by rw [wn];omega)]
structure W4 where
 n:Nat
 w:W3
def W4.vs (x:W4):List V:=[.int x.n,.int x.w.g,.int x.w.o,.int x.w.t]
def fk (ms:List M4):Nat->List W4
 | 0=>[]
 | i + 1=>fk ms i++(match ms[i]? with
  | some m=>[⟨i,⟨m.lo.toNat,m.hi.toNat,m.t⟩⟩,⟨i,⟨m.hi.toNat,m.lo.toNat,m.t⟩⟩]
  | none=>[])
theorem jG {ms:List M4}{i:Nat}{m:M4}(h:ms[i]?=some m):fk ms (i + 1)=fk ms i++[⟨i,⟨m.lo.toNat,m.hi.toNat,m.t⟩⟩,⟨i,⟨m.hi.toNat,m.lo.toNat,m.t⟩⟩]:=by
 conv=>lhs;unfold fk
 rw [h]
theorem jF (ms:List M4):∀ i,i<=ms.length->(fk ms i).map (·.w)=aQ (ms.take i)
 | 0,_=>by simp [fk,aQ]
 | i + 1,h=>by
  have hi:i < ms.length:=h;have e:ms[i]?=some ms[i]:=by simp [hi]
  rw [jG e,zF,jF ms i (by omega),wM e];unfold aQ;rw [List.flatMap_append];rfl
theorem tE (ms:List M4):(fk ms ms.length).map (·.w)=aQ ms:=by rw [jF ms _ (zB _),yD]
theorem tH (ms:List M4):(aQ ms).length=2 * ms.length:=by
 induction ms with
 | nil=>rfl
 | cons m ms ih=>
  have:aQ (m::ms)=two m++aQ ms:=by unfold aQ;rw [List.flatMap_cons]
  rw [this,zO,ih,zZ];show 2 + _=_;omega
theorem iL {w:Int}{ms:List M4}(g:Good w ms){x:W3}(h:x∈aQ ms):(x.g:Int) < w/\(x.o:Int) < w/\1<=x.t/\x.t<=1000000000/\x.g≠x.o:=by
 unfold aQ at h;obtain ⟨m,hm,hx⟩:=yl.mp h;obtain ⟨a1,a2,a3,a4,a5,_⟩:=g.each m hm;unfold two at hx;simp only [zP,ya,or_false] at hx;rcases hx with rfl | rfl
 ·exact ⟨by show (m.lo.toNat:Int) < w;omega,by show (m.hi.toNat:Int) < w;omega,a4,a5,by show m.lo.toNat≠m.hi.toNat;omega⟩
 ·exact ⟨by show (m.hi.toNat:Int) < w;omega,by show (m.lo.toNat:Int) < w;omega,a4,a5,by show m.hi.toNat≠m.lo.toNat;omega⟩
theorem gH {o:Option Int}:(oV o=.bG)↔o=none:=by cases o <;> simp [oV]
def Lk:Sp:=λvs H Q _=>∃ o t,vs=[oV o,.int t]/\Q (.bl (below o t)) H
def Nn:Sp:=λvs H Q _=>∃ o t,vs=[oV o,.int t]/\Q (.bl (bJ o t)) H
def Nt:Sp:=λvs H Q _=>∃ b,∃ k:Nat,∃ x af tr tm ps,vs=[.ref b,.int k,.int x]/\aL H b af tr tm ps/\af.length<=1000/\∀ l H',H l=none->aA H H'->H' l=some (.lst ((rep af.length (aC k x)).map oV))->Q (.ref l) H'
def Nm:Sp:=λvs H Q _=>∃ b af tr tm ps,vs=[.ref b]/\aL H b af tr tm ps/\Good af.length (ps.map (·.2))/\∀ l (ws:List (Addr×W4)) H',H l=none->aA H H'->H' l=some (.lst (ws.map λa=>V.ref a.1))->(∀ a∈ws,H' a.1=some (.tup a.2.vs))->ws.map (·.2)=fk (ps.map (·.2)) ps.length->Q (.ref l) H'
def rW:Sp:=λvs H Q _=>∃ b,∃ k:Nat,∃ x af tr tm ps,vs=[.ref b,.int k,.int x]/\k < af.length/\aL H b af tr tm ps/\af.length<=1000/\Good af.length (ps.map (·.2))/\∀ l H',H l=none->aA H H'->H' l=some (.lst ((rep af.length (fwd (ps.map (·.2)) (aC k x))).map oV))->Q (.ref l) H'
end Sm
namespace L2
open PySem PySem.Spec PyProof.Rows
section
variable {n:Nat}{caps:List Nat}{g:TG}{tc:TT}{te:TE}{σ:St}{H:Hp}{Qf:Addr->Hp->List V->Prop}
theorem gO {lo:Int}{m:Nat}(Pv:Nat->St->List V->Hp->Prop)(h0:Pv 0 (jt n caps σ) [] H)(hn:m<=1000)(hl:∀ i τ acc H,Pv i τ acc H->acc.length<=i)
  (hs:∀ i τ acc H (C:St->List V->Hp->Prop),i < m->Pv i τ acc H->(∀ τ acc H,Pv (i + 1) τ acc H->C τ acc H)->g (.int (lo + i)) τ H fun c8 H2=>tc c8 H2 λb H3=>if b=true then te c8 H3 λy H4=>C c8 (acc++[y]) H4 else C c8 acc H3)
  (hd:∀ τ acc H,Pv m τ acc H->∀ p,H p=none->Qf p H acc) :
  ∃ W:Nat->Nat->St->List V->Hp->Prop,(∃ m,W 0 m (jt n caps σ) [] H)/\∀ i m' τ acc H,W i m' τ acc H ->
   ((KO lo m).stop i H/\acc.length<=sizeLine/\∀ p,H p=none->Qf p H acc) \/
   ((KO lo m).go i H/\acc.length < sizeLine/\∀ x H',(KO lo m).rQ i H x H'->g x τ H' fun c8 H2=>tc c8 H2 λb H3=>if b=true then te c8 H3 λy H4=>∃ Qx,Qx < m'/\W (i + 1) Qx c8 (acc++[y]) H4 else ∃ Qx,Qx < m'/\W (i + 1) Qx c8 acc H3):=
 nF (J:=KO lo m) Pv m h0 hn hl (λi τ acc H hi p=>hi) (fun τ acc H p=>zB _)
  (λi τ acc H C hi p c x H' y=>by obtain ⟨e1,e2⟩:=y;subst e1;subst e2;exact hs i τ acc _ C hi p c) hd
end
end L2
namespace Sm
open PySem L2 aU
def run (ws:List W3)(st:Fn):Fn:=ws.foldl aF st
theorem cT:∀ {ws:List W3}{st:Fn}{i:Nat}{y:Int},st i=some y->run ws st i=some y
 | [],_,_,_,h=>h
 | w::ws,st,i,y,h=>cT (ws:=ws) (ki h)
theorem gZ:∀ {ws:List W3}{st:Fn}{i:Nat}{t:Int},run ws st i=some t->st i=none->∃ x∈ws,x.o=i/\x.t=t/\∃ y,run ws st x.g=some y/\y < t
 | [],st,i,t,h,h0=>by
  have:st i=some t:=h;rw [h0] at this;cases this
 | w::ws,st,i,t,h,h0=>by
  have h':run ws (aF st w) i=some t:=h;cases e:aF st w i with
  | none=>
   obtain ⟨x,hx,a,b,y,hy,lt⟩:=gZ h' e;exact ⟨x,.tail _ hx,a,b,y,hy,lt⟩
  | some z=>
   have z':=cT (ws:=ws) e;rw [h'] at z';cases z';unfold aF at e;split at e
   ·rename_i c;by_cases io:i=w.o
    ·subst io;rw [wx] at e;cases e;obtain ⟨y,hy,lt⟩:=aH.mp c.2;exact ⟨w,.head _,rfl,rfl,y,cT (ws:=w::ws) hy,lt⟩
    ·rw [wT io,h0] at e;cases e
   ·rw [h0] at e;cases e
theorem jR:∀ {ws:List W3}{st:Fn},(∀ x∈ws,x.g≠x.o)->ws.Pairwise (λa b=>a.t<=b.t)->(∀ x∈ws,∀ i y,st i=some y->y<=x.t\/∀ j,st j≠none->j=i) ->
  ∀ x∈ws,∀ y,run ws st x.g=some y->y < x.t->∃ e,run ws st x.o=some e/\e<=x.t
 | w::ws,st,ne,pw,hs,x,hx,y,hy,lt=>by
  obtain ⟨p1,p2⟩:=List.pairwise_cons.mp pw;rcases zP.mp hx with rfl | hx
  ·cases e:st x.g with
   | none=>
    obtain ⟨z,hz,a,b,_⟩:=gZ (ws:=x::ws) hy e;rcases zP.mp hz with rfl | hz
    ·exact absurd a.symm (ne z (.head _))
    ·have:=p1 z hz;omega
   | some z=>
    have:=cT (ws:=x::ws) e;rw [hy] at this;cases this;cases eo:st x.o with
    | none=>
     refine ⟨x.t,?_,zq _⟩;show run ws (aF st x) x.o=some x.t;refine cT ?_;unfold aF;rw [if_pos ⟨eo,aH.mpr ⟨y,e,lt⟩⟩,wx]
    | some z=>
     refine ⟨z,cT (ws:=x::ws) eo,?_⟩;rcases hs x (.head _) _ _ eo with q | q
     ·exact q
     ·exact absurd (q x.g (by rw [e];simp)) (ne x (.head _))
  ·refine jR (ws:=ws) (st:=aF st w) (λa ha=>ne a (.tail _ ha)) p2 (λa ha i z hz=>?_) x hx y hy lt;have base:∀ i y,st i=some y->y<=w.t\/∀ j,st j≠none->j=i:=hs w (.head _);rcases uJ (x:=w) base (ne w (.head _)) i z hz with q | q
   ·exact .inl (ym q (p1 a ha))
   ·exact .inr q
theorem nZ:∀ {ms:List M4},ms.Pairwise (λa b=>a.t<=b.t)->(aQ ms).Pairwise (λa b=>a.t<=b.t)
 | [],_=>.nil
 | m::ms,h=>by
  obtain ⟨h1,h2⟩:=List.pairwise_cons.mp h;have e:aQ (m::ms)=two m++aQ ms:=by unfold aQ;rw [List.flatMap_cons]
  rw [e,List.pairwise_append];refine ⟨?_,nZ h2,λa ha b hb=>?_⟩
  ·unfold two;refine .cons (λx hx=>?_) (List.pairwise_singleton _ _);cases zN.mp hx;exact zq _
  ·have ta:a.t=m.t:=by
    unfold two at ha;simp only [zP,ya,or_false] at ha;rcases ha with rfl | rfl <;> rfl
   unfold aQ at hb;obtain ⟨r,hr,hx⟩:=yl.mp hb;have tb:b.t=r.t:=by
    unfold two at hx;simp only [zP,ya,or_false] at hx;rcases hx with rfl | rfl <;> rfl
   rw [ta,tb];exact h1 r hr
structure RI (w:Nat) (ws:List W3) (s:Nat) (x:Int) (E:Fn):Prop where
 self:E s=some x
 YG:∀ i t,i≠s->E i=some t->∃ a∈ws,a.o=i/\a.t=t/\∃ y,E a.g=some y/\y < t
 kF:∀ a∈ws,∀ y,E a.g=some y->y < a.t->∃ e,E a.o=some e/\e<=a.t
 inside:∀ a∈ws,a.g < w/\a.o < w
theorem mw {n s:Nat}{x:Int}{ms:List M4}(g:Good n ms):RI n (aQ ms) s x (fwd ms (aC s x)):=by
 refine ⟨?_,λi t ne h=>?_,?_,λa ha=>?_⟩
 ·exact cT (ws:=aQ ms) (by simp [aC])
 ·exact gZ (ws:=aQ ms) h (by simp [aC,ne])
 ·refine jR (λa ha=>(iL g ha).2.2.2.2) (nZ g.ord.2) (λa ha i y h=>.inr λj hj=>?_);unfold aC at h hj;by_cases e:i=s
  ·by_cases e':j=s
   ·rw [e,e']
   ·rw [if_neg e'] at hj;exact absurd rfl hj
  ·rw [if_neg e] at h;cases h
 ·obtain ⟨a1,a2,_⟩:=iL g ha;omega
def lS (n:Nat)(E:Fn)(t:Int):Nat:=(List.range n).countP λj=>below (E j) t
end Sm
namespace L2
open PySem PySem.Spec PyProof.Rows
section
variable {X:Cx}{aa:List (Addr×Obj)}{σ:St}{H:Hp}{s:Shared}
theorem Inv.keptAll {m:Str->Option Value}{h':Heap}{tk:Nat}(I:Inv X aa σ H s)(F0:Fr X.base X.env.locals s.heap m)(F:Fr X.base X.env.locals h' m)
  (N:News X.base X.env.locals h' (eW X.base s.heap X.env.locals)):Inv X aa σ H { s with heap:=h',toks:=tk }:=by
 have keep:∀ b o,b≠X.env.locals->s.heap.get? b=some o->h'.get? b=some o:=λb o hb e=>by
  cases q:X.base.get? b with
  | some u=>
   have:=I.bk b u q;rw [e] at this;cases this;exact F.keep b _ q
  | none=>exact (N (b,o) (di hb q e)).1
 refine I.step (g':=s.gens) (t':=tk) (d':=s.drawn) (ch:=[]) (λ_ z=>nomatch z) (λb o hb _ _ e _=>keep b o hb e) (λb o hb _ _ e _=>⟨o.slots,keep b o hb e⟩) (λb o _ e n=>n) (λb o _ e=>?_)
  (λb ys e=>e) (λb o u e=>e) (λb ps e=>⟨#[],by rw [e,Array.append_empty]⟩) (λm' hm=>?_) (λb u e=>?_) I.bare
 ·by_cases hb:b=X.env.locals
  ·obtain ⟨o',_,_,q,_⟩:=F.ns;exact ⟨o',by rw [hb];exact q⟩
  ·exact ⟨o,keep b o hb e⟩
 ·obtain ⟨o1,ML,ep1,e1,d1,k1,f1⟩:=hm;obtain ⟨o2,es2,ep2,e2,d2,k2,f2⟩:=F0.ns;rw [e1] at e2;cases e2;rw [d1] at d2;cases d2;obtain ⟨o3,VZ,V0,e3,d3,k3,f3⟩:=F.ns;exact ⟨o3,VZ,V0,e3,d3,k3,λname=>(f3 name).trans ((f2 name).symm.trans (f1 name))⟩
 ·refine (I.br b u e).gA (λc v hc q=>keep c v (λz=>?_) q) (λc q=>q) λc ys q=>q;rcases hc with rfl | hc
  ·rw [z,I.free] at e;cases e
  ·rw [z,I.free] at hc;cases hc
theorem pV:∀ {bs:List Bool}{us:List Value},Vals (bs.map V.bl) us->LSm.BoolsAre us bs
 | [],us,r=>by cases r;exact .nil
 | b::bs,us,r=>by
  cases r with
  | cons x y=>
   cases x;exact .cons b (pV y)
theorem pR {K:PySem.W.Frag}(hK:X.K=K)(hc:X.calm=true):dW X (.builtin "all") (λxs H Q=>∃ p,∃ bs:List Bool,xs=[.ref p]/\aJ K H p (bs.map V.bl)/\Q (.bl (bs.all id)) H):=by subst hK;intro aa s σ H xs us Q I r h;obtain ⟨p,bs,rfl,hq,q⟩:=h;obtain ⟨u,rfl,rx⟩:=vals1 r;cases rx;obtain ⟨au,r',pl,hz⟩:=I.list hq;obtain ⟨m,F⟩:=I.fr;exact LSm.all_bools F (oR (g:=X.base) (h:=s.heap)) (I.ok.hd hc) pl.isList (pV r') λh' tk F' N'=>⟨.bl _,H,I.keptAll F F' N',rfl,q⟩
end
end L2
namespace Sm
open PySem L2 aU
def cI (ms:List M4)(n g o:Nat)(t:Int):Prop:=∃ m,ms[n]?=some m/\m.t=t/\((m.lo.toNat=g/\m.hi.toNat=o)\/(m.lo.toNat=o/\m.hi.toNat=g))
theorem jH {ms:List M4}:∀ {i:Nat}{x:W4},x∈fk ms i->cI ms x.n x.w.g x.w.o x.w.t
 | 0,x,h=>by cases h
 | i + 1,x,h=>by
  unfold fk at h;rcases zQ.mp h with h | h
  ·exact jH h
  ·cases e:ms[i]? with
   | none=>rw [e] at h;cases h
   | some m=>
    rw [e] at h;simp only [zP,ya,or_false] at h;rcases h with rfl | rfl
    ·exact ⟨m,e,rfl,.inl ⟨rfl,rfl⟩⟩
    ·exact ⟨m,e,rfl,.inr ⟨rfl,rfl⟩⟩
def lH (ms:List M4)(k:Nat)(f:Fn)(aE:List (Key×V))(H:Hp):Prop:=
 ∀ o t,f o=some t->o=k\/∃ tt n g y,cS aE (Sum.inl (o:Int))=some (.ref tt)/\H tt=some (.tup [.int ((n:Nat):Int),.int ((g:Nat):Int)])/\cI ms n g o t/\f g=some y/\y < t
theorem lH.aR {ms:List M4}{k:Nat}{f:Fn}{aE:List (Key×V)}{H H':Hp}(c:lH ms k f aE H)(t:bL H H'):lH ms k f aE H':=λo x h=>by
 rcases c o x h with e | ⟨tt,n,g,y,a1,a2,a3,a4,a5⟩
 ·exact .inl e
 ·exact .inr ⟨tt,n,g,y,a1,t _ _ a2,a3,a4,a5⟩
theorem lH.step {ms:List M4}{k:Nat}{f:Fn}{aE:List (Key×V)}{H:Hp}{tt:Addr}{x:W4}(c:lH ms k f aE H)(ho:f x.w.o=none)(hb:below (f x.w.g) x.w.t=true)(hl:cI ms x.n x.w.g x.w.o x.w.t)
  (ht:H tt=some (.tup [.int (x.n:Int),.int (x.w.g:Int)])):lH ms k (put f x.w.o (some x.w.t)) (putK aE (Sum.inl (x.w.o:Int)) (.ref tt)) H:=λo t h=>by
 have keep:∀ g y,f g=some y->put f x.w.o (some x.w.t) g=some y:=λg y e=>by rw [wT λz=>by rw [z,ho] at e;cases e];exact e
 by_cases e:o=x.w.o
 ·subst e;rw [wx] at h;cases h;obtain ⟨y,hy,lt⟩:=aH.mp hb;exact .inr ⟨tt,x.n,x.w.g,y,by rw [n6,if_pos rfl],ht,hl,keep _ _ hy,lt⟩
 ·rw [wT e] at h;rcases c o t h with e' | ⟨t2,n,g,y,a1,a2,a3,a4,a5⟩
  ·exact .inl e'
  ·refine .inr ⟨t2,n,g,y,?_,a2,a3,keep _ _ a4,a5⟩;rw [n6,if_neg λz=>e (by have:=Sum.inl.inj z;omega)];exact a1
def vN:Sp:=λvs H Q _=>∃ b,∃ k:Nat,∃ x af tr tm ps,vs=[.ref b,.int k,.int x]/\aL H b af tr tm ps/\af.length<=1000/\Good af.length (ps.map (·.2))/\∀ t l d aE H',H l=none->aA H H'->H' t=some (.tup [.ref l,.ref d])->H' l=some (.lst ((rep af.length (fwd (ps.map (·.2)) (aC k x))).map oV))->H' d=some (.dK aE)->lH (ps.map (·.2)) k (fwd (ps.map (·.2)) (aC k x)) aE H'->Q (.ref t) H'
def lI (ms:List M4):Nat->Int->Int->List Int->Option (Nat×Int)
 | v,t,_,[]=>some (v,t)
 | v,t,a,n::ns=>match ms[n.toNat]? with
  | none=>none
  | some m=>if a < n/\0<=n/\(v=m.lo.toNat\/v=m.hi.toNat)/\t < m.t then lI ms (if v=m.lo.toNat then m.hi.toNat else m.lo.toNat) m.t n ns else none
theorem tK {ms:List M4}{n g o:Nat}{y t a:Int}{ns:List Int}(h:cI ms n g o t)(ne:g≠o)(lt:y < t)(ha:a < n):lI ms g y a ((n:Int)::ns)=lI ms o t n ns:=by
 obtain ⟨m,hm,rfl,h⟩:=h
 conv=>lhs;unfold lI
 rw [show ((n:Int)).toNat=n from by simp,hm];dsimp only;rcases h with ⟨rfl,rfl⟩ | ⟨rfl,rfl⟩
 ·rw [if_pos ⟨ha,by omega,.inl rfl,lt⟩,if_pos rfl]
 ·rw [if_pos ⟨ha,by omega,.inr rfl,lt⟩,if_neg λz=>ne z]
theorem bL.Uo {l:Addr}{H:Hp}{aE:List (Key×V)}{o:HO}(h:H l=some (.dK aE)):bL H (upd H l o):=λb u e=>by rw [xR (bY e h (by intro z;cases z))];exact e
theorem N9 {ms:List M4}(o:ms.Pairwise λa b=>a.t<=b.t){i j:Nat}{a b:M4}(hi:ms[i]?=some a)(hj:ms[j]?=some b)(lt:a.t < b.t):i < j:=by
 obtain ⟨h1,e1⟩:=zC.mp hi;obtain ⟨h2,e2⟩:=zC.mp hj;rcases Nat.lt_trichotomy i j with h | h | h
 ·exact h
 ·subst h;rw [e1] at e2;rw [e2] at lt;omega
 ·have:=yQ.mp o j i h2 h1 h;rw [e1,e2] at this;omega
def mu (n:Nat)(E:Fn)(σ:St):Nat:=match σ[9]? with
 | some (some (V.int v))=>(match E v.toNat with
  | some e=>lS n E e
  | none=>0)
 | _=>0
theorem Ls {n:Nat}{E:Fn}{g:Nat}{y t:Int}(hg:g < n)(hy:E g=some y)(lt:y < t):lS n E y < lS n E t:=
 i0 (λj hj=>by
  obtain ⟨z,hz,l⟩:=aH.mp hj;exact aH.mpr ⟨z,hz,by omega⟩) (zj.mpr hg) (by
   cases c:below (E g) y with
   | false=>rfl
   | true=>
    obtain ⟨z,hz,l⟩:=aH.mp c;rw [hy] at hz;cases hz;omega) (aH.mpr ⟨y,hy,lt⟩)
theorem Lu (n:Nat)(E:Fn)(t:Int):lS n E t<=n:=by unfold lS;have:=List.countP_le_length (p:=λj=>below (E j) t) (l:=List.range n);rw [yH] at this;exact this
theorem cI.inside {n g o w:Nat}{t:Int}{ms:List M4}(g0:Good w ms)(h:cI ms n g o t):g < w/\o < w/\g≠o:=by obtain ⟨m,hm,_,h⟩:=h;obtain ⟨a1,a2,a3,_⟩:=g0.each m (zD hm);rcases h with ⟨rfl,rfl⟩ | ⟨rfl,rfl⟩ <;> omega
def mK (H:Hp)(lt:Addr)(n s w:Nat)(a z:Int):Prop:=H lt=some (.tup [.int (s:Int),.int a,.int (w:Int),.int z])/\s < n/\w < n/\0<=a/\a<=1000000000/\0<=z/\z<=1000000000
theorem mK.th {H:Hp}{lt:Addr}{n s w:Nat}{a z:Int}(h:mK H lt n s w a z):Th H (.ref lt) (some [.int (s:Int),.int a,.int (w:Int),.int z]):=.inr ⟨lt,_,rfl,h.1,λe he=>by
 simp only [zP,ya,or_false] at he;rcases he with rfl | rfl | rfl | rfl <;> exact ⟨_,rfl⟩,rfl⟩
theorem mK.yes {H:Hp}{lt:Addr}{n s w:Nat}{a z:Int}(h:mK H lt n s w a z):isLet n (some [.int (s:Int),.int a,.int (w:Int),.int z])=true:=by obtain ⟨_,h1,h2,h3,h4,h5,h6⟩:=h;simp only [isLet,nV,zX,decide_eq_true_eq];omega
def qB:Sp:=λvs H Q _=>∃ b lt,∃ s w:Nat,∃ a z af tr tm ps,vs=[.ref b,.ref lt]/\aL H b af tr tm ps/\af.length<=1000/\Good af.length (ps.map (·.2))/\mK H lt af.length s w a z /\
 (bJ (fwd (ps.map (·.2)) (aC s a) w) z=false->∀ H',aA H H'->Q .bG H') /\
 (∀ e l ns H',fwd (ps.map (·.2)) (aC s a) w=some e->e<=z->H l=none->aA H H'->H' l=some (.lst (List.map V.int ns))->ns.length<=1000->lI (ps.map (·.2)) s a (-1) ns=some (w,e)->Q (.ref l) H')
theorem bB.same {H H':Hp}{p:Addr}(h:bB H p)(e:aA H H'):bB H' p:=by obtain ⟨x,y,z,q⟩:=h;exact ⟨x,y,z,e _ _ q⟩
def sQ (ws:List W3)(f:Fn):Bool:=ws.all λx=>!(below (f x.g) x.t) || bJ (f x.o) x.t
def sW (ms:List M4)(s w:Nat)(a z:Int)(f:Fn):Bool:=bJ (f s) a && (!bJ (f w) z && sQ (aQ ms) f)
def tU:Sp:=λvs H Q _=>∃ b,∃ k:Nat,∃ v:Int,∃ af tr tm ps,∃ m:M4,vs=[.ref b,.int k,.int v]/\aL H b af tr tm ps/\(ps.map (·.2))[k]?=some m/\Q (.int (if v=m.lo then m.hi else m.lo)) H
def Ll:Sp:=λvs H Q _=>∃ b lt l f,∃ s w:Nat,∃ a z af tr tm ps,vs=[.ref b,.ref lt,.ref l]/\aL H b af tr tm ps/\af.length<=1000/\Good af.length (ps.map (·.2))/\mK H lt af.length s w a z/\H l=some (.lst ((rep af.length f).map oV))/\sW (ps.map (·.2)) s w a z f=true/\∀ H',aA H H'->Q (.bl true) H'
theorem iy {n s:Nat}{x:Int}{ms:List M4}(g:Good n ms):sQ (aQ ms) (fwd ms (aC s x))=true:=by
 refine xB.mpr λa ha=>?_;cases h:below (fwd ms (aC s x) a.g) a.t with
 | false=>rfl
 | true=>
  obtain ⟨y,hy,lt⟩:=aH.mp h;obtain ⟨e,he,le⟩:=(mw (s:=s) (x:=x) g).kF a ha y hy lt;rw [aK.mpr ⟨e,he,le⟩];rfl
theorem pM (xs:List V)(k:Nat):jx xs (some (k:Int)) none=xs.drop k:=by
 unfold jx;rw [HT.rZ];show (xs.drop (min k xs.length)).take (xs.length - min k xs.length)=xs.drop k;by_cases h:k<=xs.length
 ·rw [Nat.min_eq_left h,List.take_of_length_le (by rw [zz];exact zB _)]
 ·rw [Nat.min_eq_right (by omega),List.drop_eq_nil_of_le (by omega),List.drop_eq_nil_of_le (by omega),List.take_nil]
theorem pL (xs:List V)(k:Nat):jx xs none (some (k:Int))=xs.take k:=by
 unfold jx;rw [HT.rZ];show (xs.drop 0).take (min k xs.length - 0)=xs.take k;rw [List.drop_zero,Nat.sub_zero];by_cases h:k<=xs.length
 ·rw [Nat.min_eq_left h]
 ·rw [Nat.min_eq_right (by omega),List.take_of_length_le (zB _),List.take_of_length_le (by omega)]
end Sm
namespace L2
open PySem
theorem kZ {c:Bool}{A:Prop}{D:Ends}{σ:St}{H:Hp}(Pre:St->Hp->Prop)(k:∀ σ H,Pre σ H->D.nx σ H)(h1:c=true->(∀ σ H,Pre σ H->D.nx σ H)->A)(h2:c=false->Pre σ H):if c=true then A else jc D σ H:=by
 cases c with
 | true=>exact h1 rfl k
 | false=>exact k _ _ (h2 rfl)
end L2
namespace Sm
open PySem L2 aU
def QC (row F:Fn)(x:W3):Fn:=if below (row x.g) x.t=true/\bJ (F x.o) x.t=false then put F x.o (some x.t) else F
def Zi (ws:List W3)(row:Fn):Fn:=ws.foldl (QC row) row
def uA (ws:List W3)(row:Fn):Nat->Fn
 | 0=>row
 | k + 1=>Zi ws (uA ws row k)
def rk (ws:List W3):Option Int->Nat
 | none=>ws.length + 1
 | some y=>ws.countP λx=>decide (x.t < y)
end Sm
namespace L2
open PySem PySem.Spec PyProof.Rows
section
variable {X:Cx}
theorem fitsLong {k:Int}(h1:-2 ^ 63<=k)(h2:k < 2 ^ 63):Builtin.Range.rangeFitsLong k=true:=by unfold Builtin.Range.rangeFitsLong;rw [decide_eq_true h1,decide_eq_true h2];rfl
theorem mX {a:Expr}{ta:TA}{p p2 pos gF:Pos}(hc:X.calm=true)(hg:Gl X "list")(hm:X.mg "list" = none)(Vz:Gl X "range")(Vn:X.mg "range" = none)(ha:PA X [a] ta)
  (hs:starEach [a] X.env=[(false,eval a X.env)]:=by rfl) (QO:starEach [Expr.Call (.Name "range" p2) [a] [] gF] X.env=[(false,eval (Expr.Call (.Name "range" p2) [a] [] gF) X.env)]:=by rfl) :
  PE X (.Call (.Name "list" p) [.Call (.Name "range" p2) [a] [] gF] [] pos) (fun σ H Q=>ta σ H λvs H1=>∃ n:Nat,vs=[.int (n:Int)]/\n<=1000/\∀ l,H1 l=none->Q (.ref l) (upd H1 l (.lst ((List.range n).map λk:Nat=>V.int (k:Int))))):=by
 intro aa s σ H Q I h;refine wpAny_Call_Name_kw (cG I hg hm boot_list ?_ (by decide) (by decide));refine zi ?_ QO rfl;rw [QO];show wpAny _ _ (spliced ((false,eval (Expr.Call (.Name "range" p2) [a] [] gF) X.env)::backTo pos (starEach [] X.env))) _ _ s;refine Calls.spliced_cons ?_;refine Call_ (cG I Vz Vn boot_range (zi (aX (ha gF aa s σ H _ I h) λus s1 ⟨vs,H1,I1,r1,q1⟩=>?_) hs rfl));obtain ⟨n,rfl,hn,q⟩:=q1;obtain ⟨u,rfl,ru⟩:=Vals.one r1;obtain ⟨t,rfl⟩:=ru;refine call_range_1 ?_;refine Calls.spliced_nil ?_;have sm:Builtin.Range.small 0 (n:Int) 1=true:=by
  have sz:Builtin.Range.rangeSize 0 (n:Int) 1=n:=by rw [rangeSize_one];split <;> omega
  have f0:Builtin.Range.rangeFitsLong 0=true:=fitsLong (by decide) (by decide);have f1:Builtin.Range.rangeFitsLong 1=true:=fitsLong (by decide) (by decide);have fn:Builtin.Range.rangeFitsLong (n:Int)=true:=fitsLong (by omega) (by omega);have fm:Builtin.Range.rangeFitsLong ((n:Int) + (1 - 1))=true:=fitsLong (by omega) (by omega);unfold Builtin.Range.small;rw [sz,f0,f1,fn,if_pos (show (1:Int) > 0 by decide),fm,Bool.or_true];rfl
 have sz:Builtin.Range.rangeSize 0 (n:Int) 1=n:=by rw [rangeSize_one];split <;> omega
 refine call_list_range (n:=n) (I1.ok.hd hc) (Heap.get?_push_size _ rfl) sm sz (by omega) λh' tk Rt c' keep Oh items=>?_;have vals:∀ (m:Nat) (l:List Value),l.length=m->(∀ (j:Nat) v,l[j]?=some v->∃ t,v=Value.int (0 + (j:Int) * 1) t)->Vals ((List.range m).map λk:Nat=>V.int (k:Int)) l:=by
  intro m;induction m with
  | zero=>
   intro l hl _;rw [List.length_eq_zero_iff.mp hl];exact .nil
  | succ m ih=>
   intro l hl hv;have ne:l≠[]:=λe=>by rw [e] at hl;cases hl
   have es:l=l.dropLast++[l.getLast ne]:=(List.dropLast_concat_getLast ne).symm;rw [es,List.range_succ,zF];refine Vals.append (ih _ (by rw [List.length_dropLast,hl];rfl) λj v h=>hv j v ?_) (.cons ?_ .nil)
   ·rw [es];rw [zf (zC.mp h).1];exact h
   ·obtain ⟨t,e⟩:=hv m (l.getLast ne) (by rw [List.getLast_eq_getElem];rw [zI (by omega)];simp [hl]);have e2:(0:Int) + (m:Int) * 1=(m:Int):=by omega
    rw [e2] at e;exact ⟨t,e⟩
 have UI:((List.range n).map λk:Nat=>V.int (k:Int)).length<=sizeLine:=by
  rw [zA,yH,sizeLine_eq];omega
 have ge:s1.heap.objs.size<=(s1.heap.push { cls:=.type "range", data:=.fields #[.int 0 s1.toks,.int n t,.int 1 (s1.toks + 1)] }).objs.size:=by rw [Heap.size_push];exact z8 _
 exact ⟨.ref _,_,I1.laid (t':=tk) (λb o' h=>keep b o' (Heap.get?_push_of_some _ h)) ge (show aY X.prog X.w _ h' _ (.lst ((List.range n).map λk:Nat=>V.int (k:Int))) from ⟨UI,Rt.toList,c',vals n Rt.toList (by rw [Array.length_toList];exact items.1) (λj v h=>items.2 j v (by rw [<-Array.getElem?_toList];exact h)),Oh⟩),rfl,q _ (I1.br.fresh ge)⟩
end
end L2
namespace Sm
open PySem L2 aU
structure Rows (H0 H:Hp) (ms:List M4) (n k:Nat) (x:Int) (as:List Addr):Prop where
 pos:as≠[]
 kT:as.length<=200000
 at':∀ (i:Nat) (a:Addr),as[i]?=some a->H0 a=none/\H a=some (.lst ((rep n (uA (aQ ms) (aC k x) i)).map oV))
 ne:∀ i,i + 1 < as.length->rep n (uA (aQ ms) (aC k x) (i + 1))≠rep n (uA (aQ ms) (aC k x) i)
 last:rep n (uA (aQ ms) (aC k x) as.length)=rep n (uA (aQ ms) (aC k x) (as.length - 1))
end Sm
namespace L2
open PySem PySem.Spec PyProof.Rows
section
variable {K:PySem.W.Frag}{a:Addr}{xs:List V}{n:Nat}{caps:List Nat}{g:TG}{tc:TT}{te:TE}{σ:St}{H:Hp}{Qf:Addr->Hp->List V->Prop}
end
end L2
namespace Sm
open PySem L2 aU
end Sm
namespace Sm
open PySem L2
end Sm
namespace Sm
open PySem L2 aU
def again (ms:List M4)(day first:Int):Nat->List M4
 | 0=>[]
 | r + 1=>again ms day first r++ms.map (M4.fZ ((first + r) * day))
end Sm
namespace L2
open PySem PySem.Spec PyProof.Rows
def RG (lo c:Int)(n:Nat):It:=⟨λi _=>i < n,λi H x H'=>H'=H/\x=.int (lo + i * c),λi _=>n<=i⟩
theorem n9 {P:Program}{w:World}{K:PySem.W.Frag}{tg:Expr}(it:Addr)(lo c:Int)(n:Nat):Turn P w K tg (RG lo c n) [it] it (λi h=>IsRangeIter h it (lo + (i:Nat) * c) ((n:Int) - (i:Nat)) c) where
 mem:=by simp
 obj:=λi h st b hb=>by
  have e:b=it:=by simpa using hb
  subst e;exact ⟨_,st,λv z=>by
   have z':Data.fields _=Data.cell v:=z;cases z'⟩
 keep:=λi h h' st k=>k it (by simp) _ st
 item:=by
  intro X hP hw hK hc i aa s σ H E I hf st hg;subst hP hw hK;obtain ⟨f0,f1,f2,f3,f4,f5⟩:=hf it (by simp);have W:=Walks.range (prog:=X.prog) (w:=X.w) (I.ok.hd hc) it lo c n;refine W.item i s _ _ hg st λv h' tk hv mQ kk=>?_;obtain ⟨t,rfl⟩:=hv;have I1:Inv X aa σ H { s with heap:=h',toks:=tk }:=I.turned (λb o hb e=>kk b o (by simpa using hb) e) f0 f1 f3 f4 f5;exact ⟨_,rfl,sD (s:={ s with heap:=h',toks:=tk }) (n := "range_iterator") mQ rfl rfl (by decide) ⟨.int (lo + i * c),H,I1,⟨t,rfl⟩,⟨rfl,rfl⟩,mQ,λb hb=>(hf b hb).1⟩⟩
 done:=by
  intro X hP hw hK hc i aa s σ H E I hf st hg;subst hP hw hK;obtain ⟨f0,f1,f2,f3,f4,f5⟩:=hf it (by simp);exact wpAny_pyNext_range_end (I.ok.hd hc) st (by have:n<=i:=hg;omega) λh' eb=>⟨rfl,I.turned (t':=s.toks) (λb o hb e=>eb b o hb e) f0 f1 f3 f4 f5⟩
 self:=λ_ _ _ _ _ st h=>wpAny_pyIter_rangeiter st h
section
variable {X:Cx}{tg:Expr}
theorem rj {lo c:Int}{n:Nat}{g:TG}{tb:TS}{D:Ends}{σ:St}{H:Hp}(Pv:Nat->St->Hp->Prop)(h0:Pv 0 σ H)
  (hs:∀ i σ H,i < n->Pv i σ H->g (.int (lo + i * c)) σ H fun jq H2=>tb (D.lp (Pv (i + 1))) jq H2) (hd:∀ σ H,Pv n σ H->D.nx σ H) :
  ∃ W:Nat->Nat->St->Hp->Prop,(∃ m,W 0 m σ H)/\∀ i m σ H,W i m σ H ->
   ((RG lo c n).stop i H/\D.nx σ H)\/((RG lo c n).go i H/\∃ N:St->Hp->Prop,(∀ bE H',N bE H'->∃ m',m' < m/\W (i + 1) m' bE H')/\∀ x H',(RG lo c n).rQ i H x H'->g x σ H' fun jq H2=>tb (D.lp N) jq H2):=by
 refine ⟨λi m σ H=>m=n - i/\i<=n/\Pv i σ H,⟨n,by simp,zY _,h0⟩,?_⟩;rintro i m σ H ⟨rfl,hi,p⟩;by_cases cY:i < n
 ·refine .inr ⟨cY,Pv (i + 1),fun bE H' p'=>⟨n - (i + 1),by omega,rfl,cY,p'⟩,λx H' y=>?_⟩;obtain ⟨e,y⟩:=y;subst e;subst y;exact hs i σ _ cY p
 ·have e:i=n:=by omega
  subst e;exact .inl ⟨zB _,hd σ H p⟩
end
section
variable {X:Cx}
end
end L2
namespace HT
open PySem PySem.Spec PyProof.Rows
section
variable {prog:Program}{w:World}{A:Around}{E:Value->Shared->Prop}{s:Shared}
end
end HT
namespace L2
open PySem PySem.Spec PyProof.Rows
section
variable {X:Cx}
end
theorem pJ {x:V}(h:bT x=true):qa x x=true:=by cases x <;> first | rfl | (simp [qa,bT] at *)
section
variable {X:Cx}{aa:List (Addr×Obj)}{σ:St}{H:Hp}{s:Shared}
theorem dc {xs:List V}{us:List Value}(r:Vals xs us){j:Nat}(h:j < us.toArray.size):∃ x,xs[j]?=some x/\RelV x us.toArray[j]:=by
 have hl:=r.length;simp only [zM] at h;have a1:j < xs.length:=by omega
 obtain ⟨u,eu,ru⟩:=r.get (i:=j) (x:=xs[j]) (by simp [a1]);have e1:us.toArray[j]=u:=by rw [List.getElem_toArray];exact Option.some.inj ((zI h).symm.trans eu)
 exact ⟨xs[j],by simp [a1],by rw [e1];exact ru⟩
end
def Eqv (K:PySem.W.Frag)(H:Hp):Nat->V->V->Bool->Prop
 | 0,x,y,b=>(x=y/\(∃ a,x=.ref a)/\b=true)\/(bT x=true/\bT y=true/\b=qa x y)
 | n + 1,x,y,b=>(x=y/\(∃ a,x=.ref a)/\b=true)\/(bT x=true/\bT y=true/\b=qa x y)\/∃ (a c:Addr) (xs ys:List V) (e:Nat->Bool),x=.ref a/\y=.ref c/\((aJ K H a xs/\aJ K H c ys)\/(bC K H a xs/\bC K H c ys))/\(a=c->b=true)/\b=(decide (xs.length=ys.length) && (List.range xs.length).all e)/\∀ (i:Nat) (x y:V),xs[i]?=some x->ys[i]?=some y->Eqv K H n x y (e i)
section
variable {X:Cx}{aa:List (Addr×Obj)}{σ:St}{H:Hp}{s:Shared}
theorem ku {A:Around}{x y:V}{b:Bool}{u v:Value}(h:(x=y/\(∃ a,x=.ref a)/\b=true)\/(bT x=true/\bT y=true/\b=qa x y))(ru:RelV x u)(rv:RelV y v):SeqAt.EqAt A s u v b:=by
 rcases h with ⟨rfl,⟨a,rfl⟩,rfl⟩ | ⟨h1,h2,rfl⟩
 ·cases ru;cases rv;exact SeqAt.EqAt.same _
 ·exact Kl (A:=A) (s:=s) ru rv h1 h2
theorem Kg (I:Inv X aa σ H s):∀ (n:Nat) {A:Around}{x y:V}{b:Bool}{u v:Value},A.units + n < cLine->Eqv X.K H n x y b->RelV x u->RelV y v->SeqAt.EqAt A s u v b:=by
 intro n;induction n with
 | zero=>intro A x y b u v hu h ru rv;exact ku h ru rv
 | succ n ih=>
  intro A x y b u v hu h ru rv;rcases h with h | h | ⟨a,c,xs,ys,e,rfl,rfl,h,hs,hb,hi⟩
  ·exact ku (.inl h) ru rv
  ·exact ku (.inr h) ru rv
  ·cases ru;cases rv;by_cases ne:a=c
   ·rw [hs ne,ne];exact SeqAt.EqAt.same _
   refine SeqAt.EqAt.of_refs ne ?_;have QL:(A.units + 1) + n < cLine:=by omega
   rcases h with ⟨h1,h2⟩ | ⟨h1,h2⟩
   ·obtain ⟨au,r1,p1,_⟩:=I.list h1;obtain ⟨gK,r2,p2,_⟩:=I.list h2;have l1:=r1.length;have l2:=r2.length;by_cases hl:xs.length=ys.length
    ·have:=SeqAt.RcAt.lists (A:=A) (e:=e) p1.isList p2.isList (by simp;omega) (by omega) λj h1 h2=>by
      obtain ⟨x,ex,rx⟩:=dc r1 h1;obtain ⟨y,ey,ry⟩:=dc r2 h2;exact ih QL (hi j x y ex ey) rx ry
     rw [hb,decide_eq_true hl,xD,l1];simpa using this
    ·rw [hb,decide_eq_false hl,yL];exact SeqAt.RcAt.lists_lengths (A:=A) p1.isList p2.isList (by simp;omega) (by omega)
   ·obtain ⟨au,r1,p1,_⟩:=I.tuple h1;obtain ⟨gK,r2,p2,_⟩:=I.tuple h2;have l1:=r1.length;have l2:=r2.length;have:=SeqAt.RcAt.tuples (A:=A) (e:=e) p1 p2 (by omega) λj h1 h2=>by
     obtain ⟨x,ex,rx⟩:=dc r1 h1;obtain ⟨y,ey,ry⟩:=dc r2 h2;exact ih QL (hi j x y ex ey) rx ry
    by_cases hl:xs.length=ys.length
    ·rw [hb,decide_eq_true hl,xD,l1];have e1:gK.length=au.length:=by omega
     simpa [e1] using this
    ·rw [hb,decide_eq_false hl,yL];have e1:¬ au.length=gK.length:=by omega
     have e2:(au.toArray.size == gK.toArray.size)=false:=by simp [e1]
     rw [e2,yk] at this;exact this
def Uw (K:PySem.W.Frag)(neg:Bool):R2:=λx y H Q=>∃ (n:Nat) (a c:Addr) (xs ys:List V) (e:Nat->Bool) (b:Bool),n<=20/\x=.ref a/\y=.ref c/\((aJ K H a xs/\aJ K H c ys)\/(bC K H a xs/\bC K H c ys))/\b=(decide (xs.length=ys.length) && (List.range xs.length).all e)/\(∀ (i:Nat) (x y:V),xs[i]?=some x->ys[i]?=some y->Eqv K H n x y (e i))/\Q (.bl (if neg then !b else b)) H
theorem NK (hu:X.A.units + 64 < cLine):gb X (compareOp .Eq) (Uw X.K false):=by
 intro aa s σ H x y v u Q I rx ry h;obtain ⟨n,a,c,xs,ys,e,b,hn,rfl,rfl,h,hb,hi,q⟩:=h;cases rx;cases ry;rw [if_neg (by decide),hb] at q;rcases h with ⟨h1,h2⟩ | ⟨h1,h2⟩
 ·obtain ⟨au,r1,p1,_⟩:=I.list h1;obtain ⟨gK,r2,p2,_⟩:=I.list h2;have l1:=r1.length;have l2:=r2.length;by_cases hl:xs.length=ys.length
  ·rw [decide_eq_true hl,xD,l1] at q;exact SeqAt.RcAt.lists (e:=e) p1.isList p2.isList (by simp;omega) (by omega) (λj h1 h2=>by
    obtain ⟨x,ex,rx⟩:=dc r1 h1;obtain ⟨y,ey,ry⟩:=dc r2 h2;exact Kg I n (by show X.A.units + 1 + n < cLine;omega) (hi j x y ex ey) rx ry) _ _ _ _ ⟨.bl _,H,I,rfl,by simpa using q⟩
  ·rw [decide_eq_false hl,yL] at q;exact SeqAt.RcAt.lists_lengths p1.isList p2.isList (by simp;omega) (by omega) _ _ _ _ ⟨.bl _,H,I,rfl,q⟩
 ·obtain ⟨au,r1,p1,_⟩:=I.tuple h1;obtain ⟨gK,r2,p2,_⟩:=I.tuple h2;have l1:=r1.length;have l2:=r2.length;have key:((List.range (min au.toArray.size gK.toArray.size)).all e && au.toArray.size == gK.toArray.size)=(decide (xs.length=ys.length) && (List.range xs.length).all e):=by
   by_cases hl:xs.length=ys.length
   ·have e1:gK.length=au.length:=by omega
    rw [decide_eq_true hl,xD,l1];simp [e1]
   ·have e1:¬ au.length=gK.length:=by omega
    rw [decide_eq_false hl,yL];simp [e1]
  rw [<-key] at q;exact SeqAt.RcAt.tuples (e:=e) p1 p2 (by omega) (λj h1 h2=>by
   obtain ⟨x,ex,rx⟩:=dc r1 h1;obtain ⟨y,ey,ry⟩:=dc r2 h2;exact Kg I n (by show X.A.units + 1 + n < cLine;omega) (hi j x y ex ey) rx ry) _ _ _ _ ⟨.bl _,H,I,rfl,q⟩
end
section
variable {X:Cx}
theorem l8:∀ {ns:List Int}{au:List Value},Vals (ns.map V.int) au->∃ xs:List (Int×Tok),au=xs.map (λp=>Value.int p.1 p.2)/\xs.map (·.1)=ns
 | [],_,r=>by cases r;exact ⟨[],rfl,rfl⟩
 | n::ns,_,r=>by
  cases r with
  | cons r1 rr=>
   obtain ⟨t,rfl⟩:=r1;obtain ⟨xs,rfl,e⟩:=l8 rr;exact ⟨(n,t)::xs,rfl,by rw [za,e]⟩
end
end L2
namespace Sm
open PySem L2 aU
def mx:Option Int->Option Int->Option Int
 | none,b=>b
 | some a,none=>some a
 | some a,some b=>some (if b > a then b else a)
theorem ahead {n:Nat}{ms:List M4}{m:M4}(g:Good n (ms++[m])){v:Nat}{x y:Int}{i:Nat}(hi:i≠v)(h:fwd ms (aC v x) i=some y):y<=m.t/\((i=m.lo.toNat\/i=m.hi.toNat)->y < m.t):=by
 obtain ⟨a,ha,ao,at',_⟩:=gZ (ws:=aQ ms) h (by simp [aC,hi]);unfold aQ at ha;obtain ⟨c,hc,hx⟩:=yl.mp ha;have od:=(List.pairwise_append.mp g.order).2.2 c hc m (by simp);obtain ⟨c1,c2,c3,_⟩:=g.each c (by simp [hc]);obtain ⟨m1,m2,m3,_⟩:=g.each m (by simp);unfold two at hx;simp only [zP,ya,or_false] at hx;have ct:c.t=y:=by rcases hx with rfl | rfl <;> exact at'
 have ci:i=c.lo.toNat\/i=c.hi.toNat:=by
  rcases hx with rfl | rfl
  ·exact .inr ao.symm
  ·exact .inl ao.symm
 refine ⟨by rcases od with h | h <;> omega,λhm=>?_⟩;rcases od with h | ⟨h1,h2,h3,h4,h5,h6⟩
 ·omega
 ·exfalso;rcases ci with e | e <;> rcases hm with e' | e' <;> omega
end Sm
namespace L2
open PySem PySem.Spec PyProof.Rows
section
variable {X:Cx}{aa:List (Addr×Obj)}{σ:St}{H:Hp}{s:Shared}
theorem qH {ix:Nat}{xn:Str}{pos' P4:Pos}{own:List Str}{caps:List Nat}{elt tg iter:Expr}{ifs:List Expr}{scope:Scope}{pos:Pos}{wi:TI}{g:TG}{tc:TT}{te:TE}(hN:X.N.Nodup)(ZL:X.N[ix]?=some xn)(U5:JM X.env.scope xn=true)(hc:X.calm=true)(S:bq own caps X.N X.env.scope scope)(hi:PI X tg iter wi)
  (hg:∀ s H fp C,PG (eS X own caps scope s H fp C) tg g) (ht:∀ s H fp C,SA (eS X own caps scope s H fp C) ifs tc) (he:∀ s H fp C,PE (eS X own caps scope s H fp C) elt te)
  (hs:∀ x,foldedSetIterable iter X.env x=pure x:=by intro _;rfl) (Zz:swapsWith (.ListComp elt [⟨tg,iter,ifs,0⟩] scope pos) (some (.Name xn pos')) P4.line X.env=pure true:=by rfl)
  (hf:ko X xn=true:=by rfl) :
  PS X (.Assign [.Name xn pos'] (.ListComp elt [⟨tg,iter,ifs,0⟩] scope pos) P4) (qm (Mu own.length caps wi g tc te) (jh ix)):=by
 have U5:=m8 U5;intro aa s σ H D0 I h;rw [exec_Assign_Name_used _ _ _ _ Zz,arm_evalThenUse_ListComp]
 suffices main:wpAny (model X.prog X.w) X.A (comprehension (.ListComp elt [⟨tg,iter,ifs,0⟩] scope pos) scope X.env (firstIterPos [⟨tg,iter,ifs,0⟩] pos) (newList []) false (eval iter X.env) (some (assign (.Name xn pos') X.env))) (λ_ s1=>SP X aa D0 .next s1) X.xe s from
  wpAny_bind (wpAny_standAt (wpAny_bind (wpAny_bind (wpAny_mono main (λ_ s1 h=>wpAny_pure (wpAny_pure h)) λ_ _ e=>e))))
 refine wpAny_comprehension_free (use:=some _) (cl:=cZ scope.names X.env []) rfl hs (dF λy hy e=>I.ok.has y.1 (S.fr y hy e)) S.kind S.loc
  (wpAny_mono (hi aa s σ H _ I h) (λv s1 h1=>aX h1 λSa s2 h2=>?_) λ_ _ e=>e)
 obtain ⟨it,fp,tn,J,H2,e,I2,T,Nk,f2,W,⟨m0,w0⟩,turn⟩:=h2;subst e;refine wpAny_newObj_type (wpAny_newFunctionEnv S.gJ (by intro y hy;simp at hy) (λeZ gM eO=>?_) S.kind);dsimp only at gM eO ⊢;generalize Oz:s2.heap.push { cls:=.type "list", dict:=none,data:=.seq ([]:List Value).toArray }=G at gM eO ⊢;have hG:G.objs.size=s2.heap.objs.size + 1:=by rw [<-Oz,Heap.size_push]
 have Mc:s2.heap.objs.size≠G.objs.size:=by rw [hG];exact zU (xA _)
 have Me:s2.heap.objs.size<=G.objs.size:=by rw [hG];exact z8 _
 have below:∀ b,b < s2.heap.objs.size->b≠G.objs.size:=λb hb=>by rw [hG];exact zU (yi hb)
 have old:∀ b o,s2.heap.get? b=some o->eZ.get? b=some o:=λb o e=>eO.extBut b o (below b (Heap.lt_size e)) (Heap.get?_push_of_some _ (Oz ▸ Heap.get?_push_of_some _ e));have J8:eZ.get? s2.heap.objs.size=some { cls:=.type "list", dict:=none,data:=.seq ([]:List Value).toArray }:=eO.extBut _ _ Mc (Heap.get?_push_of_some _ (Oz ▸ Heap.get?_push_size _ rfl));have fl:∀ b∈fp,b < s2.heap.objs.size:=λb hb=>let ⟨o,e,_⟩:=T.obj _ _ Nk b hb;Heap.lt_size e;have nh:eZ.Ns G.objs.size λ_=>none:=gM;have I4:=o6 (tk:=s2.toks + ([]:List (Str×Value)).length) I2 S f2 fl (zB _) Me Mc old nh J8 (λv z=>nomatch z);have Nj:tn 0 eZ:=T.keep _ _ _ Nk λb _ o e=>old b o e;generalize Vg:({ s2 with heap:=eZ,toks:=s2.toks + ([]:List (Str×Value)).length }:Shared)=s4 at I4 ⊢;have e4:s4.heap=eZ:=by rw [<-Vg]
 rw [<-e4] at Nj
 -- Lb loop
 have loop:codeAny (model X.prog X.w) X.A (.compLoop (.ListComp elt [⟨tg,iter,ifs,0⟩] scope pos) 0 (.ref it) (.ref s2.heap.objs.size) (compEnvC scope (cZ scope.names X.env []) G.objs.size X.env))
   (compPost (model X.prog X.w) X.A X.xe (some (assign (.Name xn pos') X.env)) (λ_ s1=>SP X aa D0 .next s1) (.ref s2.heap.objs.size) G.objs.size) s4:=by
  let Y:=eS X own caps scope s2 H2 fp G.objs.size
  have jN:∀ {H':Hp}{au:List Value}{n:Nat},(∀ b∈fp,H' b=none)->∀ b∈fp,gQ Y [(s2.heap.objs.size,({ cls:=.type "list", data:=.seq au.toArray n }:Obj))] H' b:=λ{H' au n} hn b hb=>by
   refine ⟨hn b hb,below b (fl b hb),λz=>?_,.inl hb,λx c e=>(f2 b hb).2.2.2.2.1 x c (xw e),λp hp=>?_⟩
   ·rcases zP.mp (I2.iN b z) with e | e
    ·exact (f2 b hb).2.1 e
    ·exact (f2 b hb).2.2.1 e
   ·have e:p=(s2.heap.objs.size,({ cls:=.type "list", data:=.seq au.toArray n }:Obj)):=by simpa using (show p∈[]++[_] from hp)
    subst e;exact yT (fl b hb)
  refine lW (λn s'=>∃ i τ acc au k H',Inv Y [(s2.heap.objs.size,({ cls:=.type "list", data:=.seq au.toArray k }:Obj))] τ H' s'/\tn i s'.heap/\(∀ b∈fp,H' b=none)/\Vals acc au/\W i n τ acc H') ?_ m0
   ⟨0,_,[],[],0,H2,I4,Nj,λb hb=>(f2 b hb).1,.nil,w0⟩
  rintro n s5 ⟨i,τ,acc,au,k,H5,I5,Lg,OI,Lq,w5⟩;rcases turn i n τ acc H5 w5 with ⟨stop,hz,q⟩ | ⟨go,hz,step⟩
  ·refine aX (T.done Y rfl rfl rfl hc i _ s5 τ H5 (λ_ _=>False) I5 (jN OI) Lg stop) λr s6 ⟨hr,I6⟩=>?_;subst hr;obtain ⟨eD,nD,_,_,_⟩:=I6.pin _ (zE _ (zN.mpr rfl));obtain ⟨m6,Vm,_⟩:=I6.loc;have Sl:H5 G.objs.size=none:=I6.free;have Oe:fP X.prog X.w H5 s6.heap:=I6.br;have ub:=I6.base;have IX:Inv X aa σ (upd H5 s2.heap.objs.size (.lst acc)) s6:=by
    refine I2.MP (ch:=fp) (s':=s6) I6.os ⟨λb o e n' hb hx=>ub.keep b o e n' hb hx,λb o e n' hb hx=>?_,λb o e n' hx=>?_,λb o e hx=>?_,λb xs e=>?_,λb o u e=>?_,λb ps e=>?_⟩
     (Oe.Mt nD ⟨hz,au,k,Lq,eD⟩) I6.bare λb hb=>⟨(f2 b hb).2.2.2.1,(f2 b hb).2.1,(f2 b hb).2.2.2.2.1,(f2 b hb).2.2.2.2.2⟩
    ·exact ub.slot b o e n' hb hx
    ·rw [xR (zU (Heap.lt_size e))];exact ub.free b o e n' hx
    ·exact ub.there b o e hx
    ·have z:=ub.aR b xs e;rw [xR (xQ z nD)];exact z
    ·have z:=ub.kj b o u e;rw [xR (xQ z nD)];exact z
    ·obtain ⟨more,z⟩:=ub.jI b ps e;exact ⟨more,by rw [xR (xQ z nD)];exact z⟩
   have Rh:(upd H5 s2.heap.objs.size (.lst acc)) G.objs.size=none:=by rw [xR (Ne.symm Mc)];exact Sl
   have fC:gQ X aa (upd H5 s2.heap.objs.size (.lst acc)) G.objs.size:=I2.nj Me Rh;obtain ⟨oC,esC,epC,gC,dC,rC⟩:=Vm;have IP:=IX.pinned (fp:=[G.objs.size]) (λb hb=>by cases zN.mp hb;exact fC) (λb hb=>by cases zN.mp hb;exact ⟨oC,gC,λv z=>by rw [dC] at z;cases z⟩);refine wpAny_assign_Name (jM IP hN ZL U5 (v:=.ref s2.heap.objs.size) rfl (λs7 I7=>?_) hf);have pC:=(I7.pin (G.objs.size,oC) (zE _ (zE _ (wt (zN.mpr rfl) gC)))).1;refine ⟨m6,⟨oC,esC,epC,pC,dC,rC⟩,λh' u7=>?_⟩;have I8:Inv X aa (σ.set ix (some (.ref s2.heap.objs.size))) (upd H5 s2.heap.objs.size (.lst acc)) { s7 with heap:=h' }:=I7.dG.turned (t':=s7.toks) (λb o hb e=>u7.extBut b o hb e) fC.1 fC.2.1 fC.2.2.2.1 fC.2.2.2.2.1 fC.2.2.2.2.2;exact ⟨_,_,I8,q _ nD⟩
  ·refine aX (T.item Y rfl rfl rfl hc i _ s5 τ H5 (λ_ _=>False) I5 (jN OI) Lg go) λr s6 ⟨u,hr,h6⟩=>?_;subst hr;refine aX h6 λ_ s7 ⟨x,H7,I7,r7,y7,Ni,VT⟩=>?_;have Wf:=I7.pinned (jN VT) (T.obj _ _ Ni);refine aX (hg s2 H2 fp G.objs.size _ s7 τ H7 x u _ Wf r7 (step x H7 y7)) λ_ s8 ⟨vf,H8,I8,q8⟩=>?_;refine aX (ht s2 H2 fp G.objs.size _ s8 vf H8 _ I8 q8) λok s9 ⟨H9,I9,q9⟩=>?_
   -- Lb j7 state behind Lb turn
   have back:∀ {s':Shared}{PJ:St}{H':Hp},Inv Y ([(s2.heap.objs.size,({ cls:=.type "list", data:=.seq au.toArray k }:Obj))]++iS fp s7.heap) PJ H' s'->(tn (i + 1) s'.heap/\∀ b∈fp,H' b=none):=λ{s' PJ H'} Ib=>
    ⟨T.keep _ _ _ Ni λb hb o e=>(Ib.pin (b,o) (zE _ (zE _ (wt hb e)))).1,λb hb=>by
     obtain ⟨o,e,d⟩:=T.obj _ _ Ni b hb;exact (Ib.pin (b,o) (zE _ (zE _ (wt hb e)))).2.1⟩
   cases ok with
   | false=>
    obtain ⟨m',pe,w'⟩:=q9;obtain ⟨sb,fb⟩:=back I9;exact ⟨m',pe,i + 1,vf,acc,au,k,H9,I9.dG,sb,fb,Lq,w'⟩
   | true=>
    refine aX (he s2 H2 fp G.objs.size _ s9 vf H9 _ I9 q9) λy jP ⟨yv,ve,O7,Uy,Uz⟩=>?_;obtain ⟨m',pe,w'⟩:=Uz;obtain ⟨sb,fb⟩:=back O7;obtain ⟨eD,nD,NQ,UK,_⟩:=O7.pin (s2.heap.objs.size,_) (zE _ (zT _ (zN.mpr rfl)));have hl:acc.length=au.length:=Lq.length;refine call_meets F.slot_list_append ⟨_,eD,rfl⟩ F.entry_list_append (F.args_list_append_2 _ _) (PySem.list_append s2.heap.objs.size au.toArray k y (by rw [zM];omega)) ⟨eD,?_⟩;have q:=PySem.IsL.update eD (λa:Array Value=>a.push y);have Iu:Inv Y [] vf ve jP:=O7.bO λp hp=>nomatch hp;have It:=Iu.turned (t':=jP.toks) (it:=s2.heap.objs.size) (h':=jP.heap.update s2.heap.objs.size (Obj.mapSeq (λa:Array Value=>a.push y))) (λb o hb e=>(Heap.get?_update_other jP.heap _ (Ne.symm hb)).trans e) nD NQ (.inr (zB _))
     (λx c e z=>by
      obtain ⟨v,ob,JY,_⟩:=I2.cell x c (xw e);exact absurd (Heap.lt_size JY) (by rw [z];exact zy _)) (λp hp=>nomatch hp)
    have We:=It.bO (dJ:=[(s2.heap.objs.size,({ cls:=.type "list", data:=.seq (au++[y]).toArray (k + 1) }:Obj))]) λp hp=>by
     have e:p=_:=zN.mp hp;subst e;exact ⟨by simpa using q,nD,NQ,UK,λv z=>nomatch z⟩
    refine ⟨m',pe,i + 1,vf,acc++[yv],au++[y],_,ve,We,T.keep _ _ _ sb λb hb o e=>(Heap.get?_update_other jP.heap _ (yT (fl b hb))).trans e,fb,Lq.append (.cons Uy .nil),w'⟩
 exact codeAny_compStart_list loop (T.self _ 0 s4 _ _ Nj loop)
end
section
variable {n:Nat}{caps:List Nat}{σ:St}{H:Hp}{g:TG}{tc:TT}{te:TE}{Qf:Addr->Hp->List V->Prop}{K:PySem.W.Frag}{a b:Addr}{xs ys:List V}
end
section
variable {X:Cx}
theorem uT (hc:X.calm=true):dW X (.builtin "min") (λxs H Q=>∃ p ns,xs=[.ref p]/\aJ X.K H p (List.map V.int ns)/\0 < ns.length/\∀ M,M∈ns->(∀ a∈ns,M<=a)->Q (.int M) H):=by
 intro aa s σ H xs us Q I r h;obtain ⟨p,ns,rfl,hp,n0,q⟩:=h;obtain ⟨u,rfl,ru⟩:=vals1 r;cases ru;obtain ⟨au,r,pl,_⟩:=I.list hp;obtain ⟨ys,rfl,e⟩:=l8 r;have hl:ys.length=ns.length:=by rw [<-e,zA]
 have li:s.heap.IsList p (intItems ys.toArray):=by
  have:=pl.isList;unfold intItems;rw [List.map_toArray];exact this
 refine min_intList (I.ok.hd hc) li (by simp;omega) λv h' tk hv k=>?_;obtain ⟨t,rfl⟩:=intItems_at hv;obtain ⟨b1,b2⟩:=argBest_lt (numAt ys.toArray) (ys.toArray.size - 1);have Qt:∀ j (h:j < ns.length),numAt ys.toArray j=ns[j]:=λj h=>by
  rw [numAt_eq];simp [e,h]
 have sz:ys.toArray.size=ns.length:=by simp [hl]
 rw [sz] at b1 b2 ⊢;refine ⟨.int _,H,I.kept k,⟨_,rfl⟩,q _ ?_ λa ha=>?_⟩
 ·rw [Qt _ (by omega)];exact z4 _
 ·obtain ⟨j,hj,rfl⟩:=List.mem_iff_getElem.mp ha;have:=b2 j (by omega);rw [Qt j hj] at this;exact this
end
end L2
namespace Sm
open PySem L2 aU
theorem UX {c:Bool}{A B:Prop}{D:Ends}{σ:St}{H:Hp}(Pre:St->Hp->Prop)(k:∀ σ H,Pre σ H->D.nx σ H)(h1:c=true->(∀ σ H,Pre σ H->D.nx σ H)->A)(h2:c=false->(∀ σ H,Pre σ H->D.nx σ H)->B):if c=true then (if true=true then A else jc D σ H) else B:=by
 cases c with
 | true=>exact h1 rfl k
 | false=>exact h2 rfl k
theorem UZ {c:Bool}{T2 A:Prop}{D:Ends}{σ:St}{H:Hp}(Pre:St->Hp->Prop)(k:∀ σ H,Pre σ H->D.nx σ H)(h1:c=true->(∀ σ H,Pre σ H->D.nx σ H)->T2)(h2:c=false->Pre σ H):if c=true then T2 else (if false=true then A else jc D σ H):=by
 cases c with
 | true=>exact h1 rfl k
 | false=>exact k _ _ (h2 rfl)
end Sm
namespace L2
open PySem PySem.Spec PyProof.Rows PySem.W
def kD (c:Addr)(qual:Str):HO:=.ext λh=>h.CodeRec (.ref c) qual
def MT (P:Addr)(pos:Pos)(qual:Str)(H:Hp):Prop:=H P=some (.jr #[])\/∃ c,H P=some (.jr #[rawInt pos.line,rawInt pos.col,.ref c])/\H c=some (kD c qual)
def aW (mg:Str->Option Value)(base:Heap):Prop:=∃ bm o,mg "__builtins__" = some (.ref bm)/\bm≠builtinsNs/\bm≠mainGlobals/\base.get? bm=some o/\o.cls=.type "module" /\ o.dict=some builtinsNs/\o.data=.plain
section
variable {X:Cx}{aa:List (Addr×Obj)}{σ:St}{H:Hp}{s:Shared}
theorem Inv.VS (I:Inv X aa σ H s):∀ b∈X.fs,b < s.heap.objs.size:=λb hb=>by
 obtain ⟨_,o,ho,_⟩:=I.ok.iY.mem hb;exact zR (Heap.lt_size ho) I.sz
theorem Kw {P:Program}{w:World}{H:Hp}{h:Heap}{c:Addr}{qual:Str}(r:h.CodeRec (.ref c) qual):aY P w H h c (kD c qual):=by obtain ⟨c2,oc,vs,t,e,ho,hd,hv⟩:=id r;cases e;exact ⟨r,⟨_,ho⟩,λh1 h2 ⟨c2,oc,vs,t,e,ho,hd,hv⟩ k=>by cases e;exact ⟨c,oc,vs,t,rfl,k _ ho,hd,hv⟩⟩
theorem JR {P c:Addr}{kF:List (Str×Addr)}{pos:Pos}{params:Arguments}{body:Expr}{scope:Scope}{Q:Value->Shared->Prop}(I:Inv X aa σ H s)(mt:MT P pos (X.env.qual ++ "<lambda>") H)(sC:X.env.code=.ref c)(hd:codeHdIn X.K c P=true)(bm:aW X.mg X.base)
  (Ot:defaultsOf params X.env=([],[])) (Sj:closureFor scope X.env=pure kF)
  (h:∀ f c' nC pm H' s',Inv X ((f,kla_obj "<lambda>" (X.env.qual ++ "<lambda>") params body scope kF pm c' nC)::aa) σ H' s'->H' c'=some (kD c' (X.env.qual ++ "<lambda>"))->Sm.bV P H H'->MT P pos (X.env.qual ++ "<lambda>") H'->Q (.ref f) s') :
  wpAny (model X.prog X.w) X.A (eval (.Lambda params body scope pos) X.env) Q X.xe s:=by
 refine kla_eval Ot ?_;have glob:s.heap.Ns mainGlobals X.mg:=I.mod.glob.keeps I.bk;have C:CodeHd s.heap c P:=codeHd_of_K I.nU hd;have tr:∃ o,H P=some o:=by rcases mt with e | ⟨_,e,_⟩ <;> exact ⟨_,e⟩
 have nV:∀ b o,X.base.get? b=some o->b≠P:=λb o e z=>by
  have:=(I.bs b o e).2;obtain ⟨u,hu⟩:=tr;rw [z,hu] at this;cases this
 have ZP:mainGlobals≠P:=by
  obtain ⟨o,_,_,e,_⟩:=I.mod.glob;exact nV _ _ e
 have hB:s.heap.BuiltinsAt X.mg P:=by
  obtain ⟨b,o,e1,e2,e3,e4,e5,e6,e7⟩:=bm;exact ⟨b,o,e1,e2,e3,nV _ _ e4,I.bk _ _ e4,e5,e6,e7⟩
 have pin:∀ {h':Heap}{H':Hp}{ob:Obj}{tk:Nat},Inv X aa σ H' { s with heap:=h'.push ob,toks:=tk }->s.heap.objs.size<=h'.objs.size->H' h'.objs.size=none->(∀ v,ob.data≠.cell v)->ob.isFreed=false->Inv X ((h'.objs.size,ob)::aa) σ H' { s with heap:=h'.push ob,toks:=tk }:=λ{h' H' ob tk} J hs hn nc nf=>
  J.bO λp hp=>by
   rcases zP.mp hp with rfl | hp
   ·exact ⟨Heap.get?_push_size _ nf,hn,yT (zR I.lt hs),λz=>zy _ (zR (I.VS _ z) hs),nc⟩
   ·exact J.pin p (zE _ hp)
 rcases mt with mt | ⟨c1,mt,Xr⟩
 ·have hP:s.heap.get? P=some (tabObj #[]):=I.br P _ mt;refine kla_makeFunction Sj I.ok.glob glob sC C hP trivial rfl ZP hB λc' nC h' tk hx Xn cY rec Xy=>?_;have fr:H c'=none:=I.br.fresh Xn;have YQ:c'≠P:=λz=>by rw [z,mt] at fr;cases fr
  have Us:(h'.push (kla_obj "<lambda>" (X.env.qual ++ "<lambda>") params body scope kF ((X.mg "__name__").getD .none) c' nC)).CodeRec (.ref c') (X.env.qual ++ "<lambda>"):=by
   obtain ⟨c2,oc,vs,t,e,ho,hd,hv⟩:=rec;exact ⟨c2,oc,vs,t,e,Heap.get?_push_of_some _ ho,hd,hv⟩
  have kp:∀ b o,b≠P->s.heap.get? b=some o->(h'.push (kla_obj "<lambda>" (X.env.qual ++ "<lambda>") params body scope kF ((X.mg "__name__").getD .none) c' nC)).get? b=some o:=λb o hb e=>Heap.get?_push_of_some _ (hx b o hb e);have Xx:=Heap.get?_push_of_some (kla_obj "<lambda>" (X.env.qual ++ "<lambda>") params body scope kF ((X.mg "__name__").getD .none) c' nC) Xy;have at_:∀ b,b≠P->b≠c'->upd (upd H P (.jr #[rawInt pos.line,rawInt pos.col,.ref c'])) c' (kD c' (X.env.qual ++ "<lambda>")) b=H b:=λb h1 h2=>by rw [xR h2,xR h1]
  have neT:∀ b u,H b=some u->u≠.jr #[]->b≠P:=λb u e n z=>by rw [z,mt] at e;cases e;exact n rfl
  have JI:∀ b u,H b=some u->b≠c':=λb u e z=>by rw [z,fr] at e;cases e
  have lt:∀ b o,s.heap.get? b=some o->b≠c':=λb o e=>zU (zR (Heap.lt_size e) Xn);have aP:upd (upd H P (.jr #[rawInt pos.line,rawInt pos.col,.ref c'])) c' (kD c' (X.env.qual ++ "<lambda>")) P=some (.jr #[rawInt pos.line,rawInt pos.col,.ref c']):=by rw [xR YQ.symm,xN]
  have J:Inv X aa σ (upd (upd H P (.jr #[rawInt pos.line,rawInt pos.col,.ref c'])) c' (kD c' (X.env.qual ++ "<lambda>"))) { s with heap:=h'.push (kla_obj "<lambda>" (X.env.qual ++ "<lambda>") params body scope kF ((X.mg "__name__").getD .none) c' nC),toks:=tk }:=by
   refine I.un ⟨λb o e n _ _=>kp b o (λz=>by rw [z,mt] at n;cases n) e,λb o e n _ _=>⟨o.slots,kp b o (λz=>by rw [z,mt] at n;cases n) e⟩,λb o e n _=>?_,λb o e _=>?_,λb xs e=>?_,λb o u e=>?_,λb ps e=>?_⟩ λb u e=>?_
   ·rw [at_ b (λz=>by rw [z,mt] at n;cases n) (lt b o e)];exact n
   ·by_cases z:b=P
    ·exact ⟨_,by rw [z];exact Xx⟩
    ·exact ⟨o,kp b o z e⟩
   ·rw [at_ b (neT b _ e (by intro z;cases z)) (JI b _ e)];exact e
   ·rw [at_ b (neT b _ e (by intro z;cases z)) (JI b _ e)];exact e
   ·by_cases z:b=P
    ·rw [z,mt] at e;cases e;exact ⟨_,by rw [z,aP,Array.empty_append]⟩
    ·exact ⟨#[],by rw [at_ b z (JI b _ e),e,Array.append_empty]⟩
   ·by_cases z:b=c'
    ·subst z;rw [xN] at e;cases e;exact Kw Us
    ·by_cases z2:b=P
     ·rw [z2,aP] at e;cases e;rw [z2];exact Xx
     ·rw [at_ b z2 z] at e;refine (I.br b u e).gA (λb' v hb q=>kp b' v (λy=>?_) q) (λb' q=>by rw [at_ b' (neT b' _ q (by intro z;cases z)) (JI b' _ q)];exact q) λb' xs q=>by rw [at_ b' (neT b' _ q (by intro z;cases z)) (JI b' _ q)];exact q
      rcases hb with hb | hb
      ·exact z2 (hb.symm.trans y)
      ·rw [y,mt] at hb;cases hb
  have nf:upd (upd H P (.jr #[rawInt pos.line,rawInt pos.col,.ref c'])) c' (kD c' (X.env.qual ++ "<lambda>")) h'.objs.size=none:=by
   rw [at_ h'.objs.size (yT (Heap.lt_size Xy)) (yT cY)];exact I.br.fresh (by omega)
  refine h _ c' nC ((X.mg "__name__").getD .none) _ _ (pin J (by omega) nf (by intro v z;cases z) rfl) xN (λb u hb e=>?_) (.inr ⟨c',aP,xN⟩);rw [at_ b hb (JI b _ e)];exact e
 ·have hP:s.heap.get? P=some (tabObj #[rawInt pos.line,rawInt pos.col,.ref c1]):=I.br P _ mt;refine kla_makeFunctionHit (cv:=.ref c1) Sj I.ok.glob glob sC C hP ⟨⟩ ?_ hB λnC h' tk kp hs=>?_
  ·have:=codeAmong_snoc (pos:=pos) (c:=Value.ref c1) [] trivial rfl;exact this
  ·have J:Inv X aa σ H { s with heap:=h'.push (kla_obj "<lambda>" (X.env.qual ++ "<lambda>") params body scope kF ((X.mg "__name__").getD .none) c1 nC),toks:=tk }:=I.kept λb o e=>Heap.get?_push_of_some _ (kp b o e);refine h _ c1 nC ((X.mg "__name__").getD .none) H _ (pin J hs (I.br.fresh hs) (by intro v z;cases z) rfl) Xr (Sm.bV.refl P H) (.inr ⟨c1,mt,Xr⟩)
end
end L2
namespace L2
open PySem PySem.Spec PyProof.Rows PySem.W aU PySem.Calls
section
variable {X:Cx}{e body:Expr}{te:TE}{np kp oX pos:Pos}{params:Arguments}{scope:Scope}{P c:Addr}{N:List Str}{ok:List Int->Prop}{kf:List Int->List Int}{pn:Str}
theorem bu.YH {P:Program}{w:World}{K:PySem.W.Frag}{mg:Str->Option Value}{base:Heap}{x qual:Str}{st:Stmt}{f c:Addr}{fd:FuncData}{N ps:List Str}{k:Nat}{sp:Sp}(F:bu K x qual st f fd)(hc:fd.code=.ref c)(S:ay N ps (aq st))(len:∀ vs H Q E,sp vs H Q E->vs.length=ps.length)
  (ir:∀ (A:Around) (outer:List Env) (s:Shared) (H:Hp) (vs:List V) (Q:VK) (E:XK),cX k (A.deeper (envOfC qual (aq st) s.heap.objs.size f (.ref c)))->sp vs H Q E ->
   ∃ t,mJ (kC cB P w K mg base N qual (aq st) f (.ref c) A outer s H E).JC (aj st) t/\t { nx:=λ_ H'=>Q .bG H',rt:=Q } (start N vs) H):aT P w K mg base cB (k + 1) f fd ps sp:=by
 obtain ⟨oc,od,kV,doc,pm,an,bK,ct,LF,rfl,lk,pB⟩:=F.ex;have hc:bK=.ref c:=hc;subst hc;refine MK lk pB S len λA outer s H vs Q E hr KZ=>?_;obtain ⟨t,h,q⟩:=ir A outer s H vs Q E hr KZ;exact ⟨t,h.JC,q⟩
end
end L2
namespace L2
open PySem PySem.Spec PyProof.Rows PySem.W
theorem JG {K:PySem.W.Frag}{h:Heap}{P:Addr}(X:K.In h)(hP:h.get? P=some (tabObj #[]))(nt:noTabs K=true):K.lookup P=none:=by
 cases e:K.lookup P with
 | none=>rfl
 | some o=>
  have h1:=X P o e;rw [hP] at h1;cases h1;have h2:=xB.mp nt (P,_) (mem_of_lookupK e);exact absurd (show false=true from h2) zK
theorem ux {P:Program}{w:World}{K:PySem.W.Frag}{mg mb:Str->Option Value}{CX:KS}{k:Nat}{fa a c T:Addr}{fd:FuncData}{x:Str}{sp:Sp}{aN:Shared}{vs:List Value}{ns:List Int}
  (KX:K.In aN.heap) (L3:aN.heap.Ns mainGlobals mg) (hb:aN.heap.Ns builtinsNs mb) (ZY:∀ x:Str,x ≠ "__name__" -> mb x=bootBuiltins x) (Vr:aN.heap.NoLimit) (hg:aN.gens=#[])
  (hT:aN.heap.get? T=some (tabObj #[])) (hC:codeHdIn K c T=true) (nt:noTabs K=true) (ZX:∃ bm ob,mg "__builtins__" = some (.ref bm)/\bm≠builtinsNs/\aN.heap.get? bm=some ob/\ob.cls=.type "module" /\ ob.dict=some builtinsNs/\ob.data=.plain)
  (ha:aN.heap.get? a=some { cls:=.type "list", data:=.seq vs.toArray }) (hi:IntsAre vs ns) (hl:ns.length<=sizeLine) (hr:cX k callerA)
  (F:∀ base:Heap,K.In base->base.Ns mainGlobals mg->aW mg base->aT P w K mg base CX k fa fd [x] sp) (J6:∀ (s:Shared) (u:Value),BindsTo s fd ⟨[u],[]⟩ [(x,u)])
  (KZ:∀ H:Hp,H T=some (.jr #[])->aJ K H a (ns.map V.int)->sp [.ref a] H (λv _=>v=.bl true) λ_ _ _=>False)
  (Rh:∀ H e s',CX [] H aN (λ_ _ _=>False) e s'->False) :
  codeAny (model P w) callerA (.call (.ref fa) ⟨[.ref a],[]⟩) (λr s'=>r=.ok (.ret (.bool true))/\OldK aN.heap s'.heap/\s'.os=aN.os/\AllBare s'.gens) aN:=by
 have rv:=lK hi;have US:=hi.length;have WJ:a≠T:=λz=>by rw [z,hT] at ha;cases ha
 have Y9:=JG KX hT nt;have Zj:=((codeHd_of_K KX hC).tab hT).isCodeTable;have core:∀ H:Hp,(∀ b,H b=none\/(b=a/\∃ o xs,H b=some (.ni o (.lst xs)))\/(b=T/\H b=some (.jr #[])))->H T=some (.jr #[])->aJ K H a (ns.map V.int)->fP P w H aN.heap->(H a≠none->K.lookup a=none) ->
   codeAny (model P w) callerA (.call (.ref fa) ⟨[.ref a],[]⟩) (λr s'=>r=.ok (.ret (.bool true))/\OldK aN.heap s'.heap/\s'.os=aN.os/\AllBare s'.gens) aN:=by
  intro H hO Z2 hS br hK;have nJ:∀ {b:Addr}{o:Obj},aN.heap.get? b=some o->H b=none->(lz aN.heap H).get? b=some o:=λe n=>J5 e n;have WD:∀ {b:Addr}{o:Obj},aN.heap.get? b=some o->(∀ i n,o.data≠.seq i n)->(∀ f,o.data≠.fields f)->H b=none:=λ{b o} e d1 d2=>by
   rcases hO b with q | ⟨rfl,_⟩ | ⟨rfl,_⟩
   ·exact q
   ·rw [ha] at e;cases e;exact absurd rfl (d1 _ _)
   ·rw [hT] at e;cases e;exact absurd rfl (d2 _)
  have RW:∀ {b:Addr}{m:Str->Option Value},aN.heap.Ns b m->(lz aN.heap H).Ns b m:=λ{b m} ⟨o,es,ep,e,d,r⟩=>⟨o,es,ep,nJ e (WD e (λi n z=>by rw [d] at z;cases z) λf z=>by rw [d] at z;cases z),d,r⟩;have XA:K.In (lz aN.heap H):=λb o e=>nJ (KX b o e) (by
   rcases hO b with q | ⟨rfl,_,_,q⟩ | ⟨rfl,q⟩
   ·exact q
   ·rw [hK (by rw [q];simp)] at e;cases e
   ·rw [Y9] at e;cases e)
  have hM:Mod K mg (lz aN.heap H):=⟨XA,RW L3,⟨mb,RW hb,ZY⟩,let ⟨mc,h1,h2⟩:=Vr;⟨mc,RW h1,h2⟩⟩;have hB:aW mg (lz aN.heap H):=by
   obtain ⟨bm,ob,b1,b2,b3,b4,b5,b6⟩:=ZX;refine ⟨bm,ob,b1,b2,λz=>?_,nJ b3 (WD b3 (λi n z=>by rw [b6] at z;cases z) λf z=>by rw [b6] at z;cases z),b4,b5,b6⟩;obtain ⟨o,es,ep,e,d,_⟩:=L3;rw [z,e] at b3;cases b3;rw [b6] at d;cases d
  have e0:rN P w K mg (lz aN.heap H) callerA [] aN H:=⟨rfl,hM,λb o e=>LJ e,Nat.le_of_eq (uH _ _),trivial,λb hb=>absurd (show b∈([]:List Addr) from hb) (by simp),br,.of_eq hg⟩;refine codeAny_mono ((F _ XA (RW L3) hB).run callerA [] aN H ⟨[.ref a],[]⟩ [.ref a] [.ref a] _ _ hr e0 (J6 aN (.ref a)) (.cons rfl .nil) (KZ H Z2 hS)) λr s' h=>?_;cases r with
  | error e=>exact (Rh H e s' h).elim
  | ok fl=>
   cases fl with
   | next=>exact False.elim h
   | brk=>exact False.elim h
   | cont=>exact False.elim h
   | ret u=>
    obtain ⟨v,H',os,bare,un,QU,r',q⟩:=h;have q':v=.bl true:=q;subst q';obtain rfl:u=Value.bool true:=r';have all:∀ b o,aN.heap.get? b=some o->s'.heap.get? b=some o\/(b=T/\∃ ps,s'.heap.get? T=some (tabObj ps)):=λb o e=>by
     rcases hO b with q | ⟨_,ob,xs,z⟩ | ⟨rfl,z⟩
     ·exact .inl (un.keep b o e q (by intro z;exact absurd (show b∈([]:List Addr) from z) (by simp)) (by simp))
     ·have z2:=un.kj b ob _ z;obtain ⟨e1,_⟩:=br b _ z;obtain ⟨e2,_⟩:=QU b _ z2;rw [e] at e1;cases e1;exact .inl e2
     ·obtain ⟨more,z2⟩:=un.jI b _ z;have e2:s'.heap.get? b=some _:=QU b _ z2;exact .inr ⟨rfl,_,e2⟩
    refine ⟨rfl,⟨λb o e=>?_,λb o e=>?_⟩,os,bare⟩
    ·rcases all b o e with q | ⟨rfl,ps,q⟩
     ·exact .inl q
     ·rw [hT] at e;cases e;exact .inr (.inl ⟨Zj,rfl,#[],ps,rfl,by rw [Array.empty_append];exact q⟩)
    ·rcases all b o e with q | ⟨rfl,ps,q⟩
     ·exact ⟨_,q⟩
     ·exact ⟨_,q⟩
 cases hk:K.lookup a with
 | some o=>
  have e:=KX a o hk;rw [ha] at e;cases e;refine core (λb=>if b=T then some (.jr #[]) else none) (λb=>?_) (if_pos rfl) (.inr ⟨_,vs.toArray,_,hk,rfl,rfl,rfl,by rw [zM,US];exact hl,by simpa using rv⟩) (λb u z=>?_) λz=>absurd (if_neg WJ) z
  ·by_cases hb:b=T
   ·exact .inr (.inr ⟨hb,if_pos hb⟩)
   ·exact .inl (if_neg hb)
  ·by_cases hb:b=T
   ·have z':=(if_pos hb).symm.trans z;cases z';subst hb;exact hT
   ·have z':=(if_neg hb).symm.trans z;cases z'
 | none=>
  have Sw:(λb=>if b=T then some (HO.jr #[]) else if b=a then some (.ni { cls:=.type "list", data:=.seq vs.toArray } (.lst (ns.map V.int))) else none) a=some (.ni { cls:=.type "list", data:=.seq vs.toArray } (.lst (ns.map V.int))):=(if_neg WJ).trans (if_pos rfl);refine core (λb=>if b=T then some (.jr #[]) else if b=a then some (.ni { cls:=.type "list", data:=.seq vs.toArray } (.lst (ns.map V.int))) else none) (λb=>?_) (if_pos rfl) (.inl (.inr ⟨{ cls:=.type "list", data:=.seq vs.toArray },Sw⟩)) (λb u z=>?_) λ_=>hk
  ·by_cases hb:b=T
   ·exact .inr (.inr ⟨hb,if_pos hb⟩)
   ·by_cases iJ:b=a
    ·exact .inr (.inl ⟨iJ,_,_,(if_neg hb).trans (if_pos iJ)⟩)
    ·exact .inl ((if_neg hb).trans (if_neg iJ))
  ·by_cases hb:b=T
   ·have z':=(if_pos hb).symm.trans z;cases z';subst hb;exact hT
   ·by_cases iJ:b=a
    ·have z':=((if_neg hb).trans (if_pos iJ)).symm.trans z;cases z';subst iJ;exact ⟨ha,by rw [zA];exact hl,vs,_,rv,ha⟩
    ·have z':=((if_neg hb).trans (if_neg iJ)).symm.trans z;cases z'
theorem vo {l:PySem.W.OpenLaw}{n k:Nat}{q:Program}{loose:List Str}{XP:(Str->Option Value)->Heap->Prop}{YP:World->Heap->Prop}{d:DefRec}{K:Params->PySem.W.Frag}{CX:World->KS}{sp:World->Sp}{x:Str}{T:Addr}
  (hn:l.most=some n) (ZG:n<=sizeLine) (Q7:d.params.defaults=[]) (hr:cX k callerA)
  (hY:∀ (w:World) (h:Heap),YP w h->(K w.params).In h/\h.get? T=some (tabObj #[])) (nt:∀ w:World,noTabs (K w.params)=true)
  (F:∀ (w:World) (mg:Str->Option Value) (fa:Addr) (h:Heap),(K w.params).In h->h.Ns mainGlobals mg->mg d.name=some (.ref fa) ->
   ∃ fd:FuncData,(∃ c,codeHdIn (K w.params) c T=true)/\(∀ (s:Shared) (u:Value),BindsTo s fd ⟨[u],[]⟩ [(x,u)]) /\
    ∀ base:Heap,(K w.params).In base->base.Ns mainGlobals mg->aW mg base->aT l.prog w (K w.params) mg base (CX w) k fa fd [x] (sp w))
  (KZ:∀ (w:World) (H:Hp) (a:Addr) (ns:List Int),ns.length<=n->H T=some (.jr #[])->aJ (K w.params) H a (ns.map V.int)->sp w [.ref a] H (λv _=>v=.bl true) λ_ _ _=>False)
  (Rh:∀ (w:World) (H:Hp) (s:Shared) (e:Value) (s':Shared),CX w [] H s (λ_ _ _=>False) e s'->False) :
  PySem.W.WalkO q loose XP YP l.row.toRowW d [] (λf vs=>PySem.call f vs):=by
 refine Yd.pY hn Q7 λw cL aN mg mb fa o pm cd doc a vs ns G Y ho hd pB hmg Og hints hlen hg=>?_;obtain ⟨KX,tX⟩:=hY w _ Y;obtain ⟨fd,⟨c,hC⟩,hb,hF⟩:=F w mg fa _ KX G.T.g hmg;exact ux KX G.T.g G.T.b G.T.builtins G.T.nolimit hg tX hC (nt w) G.T.bmain Og hints (zu hlen ZG) hr hF hb (λH hO hS=>KZ w H a ns hlen hO hS) λH e s'=>Rh w H aN e s'
end L2
namespace Sm
open PySem L2 aU
theorem cH {K:PySem.W.Frag}{H:Hp}{a:Addr}{xs:List V}{i:Int}{v:V}{Q:V->Prop}(h:H a=some (.tup xs))(hi:dS xs i=some v)(q:Q v):∃ p PK i' v',V.ref a=.ref p/\V.int i=.int i'/\bC K H p PK/\dS PK i'=some v'/\Q v':=⟨a,xs,i,v,rfl,rfl,bC.of h,hi,q⟩
theorem bR {K:PySem.W.Frag}{H:Hp}{a:Addr}{xs:List V}{i:Int}{v:V}{Q:V->Prop}(h:H a=some (.lst xs))(hi:dS xs i=some v)(q:Q v):∃ p PK i' v',V.ref a=.ref p/\V.int i=.int i'/\aJ K H p PK/\dS PK i'=some v'/\Q v':=⟨a,xs,i,v,rfl,rfl,aJ.of h,hi,q⟩
theorem kU {P:List Value->Prop}{us:List Value}{n:Nat}(h:us.length=n + 1)(q:∀ a r,r.length=n->P (a::r)):P us:=by
 cases us with
 | nil=>cases h
 | cons a r=>exact q a r (Nat.succ.inj h)
theorem Pc {P:List Value->Prop}{us:List Value}(h:us.length=0)(q:P []):P us:=by rw [List.eq_nil_of_length_eq_zero h];exact q
theorem K7 {fd:FuncData}{ps:List Str}{us:List Value}(h:us.length=1)(q:∀ a,bindArgs fd ⟨[a],[]⟩=pure (ps.zip [a])):bindArgs fd ⟨us,[]⟩=pure (ps.zip us):=kU (P:=λus=>bindArgs fd ⟨us,[]⟩=pure (ps.zip (us))) h λa us h=>Pc (P:=λus=>bindArgs fd ⟨a::us,[]⟩=pure (ps.zip (a::us))) h (q a)
theorem rR {fd:FuncData}{ps:List Str}{us:List Value}(h:us.length=2)(q:∀ a b,bindArgs fd ⟨[a,b],[]⟩=pure (ps.zip [a,b])):bindArgs fd ⟨us,[]⟩=pure (ps.zip us):=kU (P:=λus=>bindArgs fd ⟨us,[]⟩=pure (ps.zip (us))) h λa us h=>kU (P:=λus=>bindArgs fd ⟨a::us,[]⟩=pure (ps.zip (a::us))) h λb us h=>Pc (P:=λus=>bindArgs fd ⟨a::b::us,[]⟩=pure (ps.zip (a::b::us))) h (q a b)
theorem uY {fd:FuncData}{ps:List Str}{us:List Value}(h:us.length=3)(q:∀ a b c,bindArgs fd ⟨[a,b,c],[]⟩=pure (ps.zip [a,b,c])):bindArgs fd ⟨us,[]⟩=pure (ps.zip us):=kU (P:=λus=>bindArgs fd ⟨us,[]⟩=pure (ps.zip (us))) h λa us h=>kU (P:=λus=>bindArgs fd ⟨a::us,[]⟩=pure (ps.zip (a::us))) h λb us h=>kU (P:=λus=>bindArgs fd ⟨a::b::us,[]⟩=pure (ps.zip (a::b::us))) h λc us h=>Pc (P:=λus=>bindArgs fd ⟨a::b::c::us,[]⟩=pure (ps.zip (a::b::c::us))) h (q a b c)
theorem RM {fd:FuncData}{ps:List Str}{us:List Value}(h:us.length=4)(q:∀ a b c d,bindArgs fd ⟨[a,b,c,d],[]⟩=pure (ps.zip [a,b,c,d])):bindArgs fd ⟨us,[]⟩=pure (ps.zip us):=kU (P:=λus=>bindArgs fd ⟨us,[]⟩=pure (ps.zip (us))) h λa us h=>kU (P:=λus=>bindArgs fd ⟨a::us,[]⟩=pure (ps.zip (a::us))) h λb us h=>kU (P:=λus=>bindArgs fd ⟨a::b::us,[]⟩=pure (ps.zip (a::b::us))) h λc us h=>kU (P:=λus=>bindArgs fd ⟨a::b::c::us,[]⟩=pure (ps.zip (a::b::c::us))) h λd us h=>Pc (P:=λus=>bindArgs fd ⟨a::b::c::d::us,[]⟩=pure (ps.zip (a::b::c::d::us))) h (q a b c d)
theorem RL {fd:FuncData}{ps:List Str}{us:List Value}(h:us.length=5)(q:∀ a b c d e,bindArgs fd ⟨[a,b,c,d,e],[]⟩=pure (ps.zip [a,b,c,d,e])):bindArgs fd ⟨us,[]⟩=pure (ps.zip us):=kU (P:=λus=>bindArgs fd ⟨us,[]⟩=pure (ps.zip (us))) h λa us h=>kU (P:=λus=>bindArgs fd ⟨a::us,[]⟩=pure (ps.zip (a::us))) h λb us h=>kU (P:=λus=>bindArgs fd ⟨a::b::us,[]⟩=pure (ps.zip (a::b::us))) h λc us h=>kU (P:=λus=>bindArgs fd ⟨a::b::c::us,[]⟩=pure (ps.zip (a::b::c::us))) h λd us h=>kU (P:=λus=>bindArgs fd ⟨a::b::c::d::us,[]⟩=pure (ps.zip (a::b::c::d::us))) h λe us h=>Pc (P:=λus=>bindArgs fd ⟨a::b::c::d::e::us,[]⟩=pure (ps.zip (a::b::c::d::e::us))) h (q a b c d e)
theorem Yl {fd:FuncData}{ps:List Str}{us:List Value}(h:us.length=6)(q:∀ a b c d e f,bindArgs fd ⟨[a,b,c,d,e,f],[]⟩=pure (ps.zip [a,b,c,d,e,f])):bindArgs fd ⟨us,[]⟩=pure (ps.zip us):=kU (P:=λus=>bindArgs fd ⟨us,[]⟩=pure (ps.zip (us))) h λa us h=>kU (P:=λus=>bindArgs fd ⟨a::us,[]⟩=pure (ps.zip (a::us))) h λb us h=>kU (P:=λus=>bindArgs fd ⟨a::b::us,[]⟩=pure (ps.zip (a::b::us))) h λc us h=>kU (P:=λus=>bindArgs fd ⟨a::b::c::us,[]⟩=pure (ps.zip (a::b::c::us))) h λd us h=>kU (P:=λus=>bindArgs fd ⟨a::b::c::d::us,[]⟩=pure (ps.zip (a::b::c::d::us))) h λe us h=>kU (P:=λus=>bindArgs fd ⟨a::b::c::d::e::us,[]⟩=pure (ps.zip (a::b::c::d::e::us))) h λf us h=>Pc (P:=λus=>bindArgs fd ⟨a::b::c::d::e::f::us,[]⟩=pure (ps.zip (a::b::c::d::e::f::us))) h (q a b c d e f)
theorem ex5 {gw gu gq gn gj:Type}{P:gw->gu->gq->gn->gj->Prop}(x0:gw)(x1:gu)(x2:gq)(x3:gn)(x4:gj)(h:P x0 x1 x2 x3 x4):∃ y0:gw,∃ y1:gu,∃ y2:gq,∃ y3:gn,∃ y4:gj,P y0 y1 y2 y3 y4:=⟨x0,x1,x2,x3,x4,h⟩
theorem VW {gw gu gq gn gj iK:Type}{P:gw->gu->gq->gn->gj->iK->Prop}(x0:gw)(x1:gu)(x2:gq)(x3:gn)(x4:gj)(x5:iK)(h:P x0 x1 x2 x3 x4 x5):∃ y0:gw,∃ y1:gu,∃ y2:gq,∃ y3:gn,∃ y4:gj,∃ y5:iK,P y0 y1 y2 y3 y4 y5:=⟨x0,x1,x2,x3,x4,x5,h⟩
theorem vc {gw gu gq gn gj iK jD:Type}{P:gw->gu->gq->gn->gj->iK->jD->Prop}(x0:gw)(x1:gu)(x2:gq)(x3:gn)(x4:gj)(x5:iK)(x6:jD)(h:P x0 x1 x2 x3 x4 x5 x6):∃ y0:gw,∃ y1:gu,∃ y2:gq,∃ y3:gn,∃ y4:gj,∃ y5:iK,∃ y6:jD,P y0 y1 y2 y3 y4 y5 y6:=⟨x0,x1,x2,x3,x4,x5,x6,h⟩
theorem XU {gw gu gq gn gj iK jD mL:Type}{P:gw->gu->gq->gn->gj->iK->jD->mL->Prop}(x0:gw)(x1:gu)(x2:gq)(x3:gn)(x4:gj)(x5:iK)(x6:jD)(x7:mL)(h:P x0 x1 x2 x3 x4 x5 x6 x7):∃ y0:gw,∃ y1:gu,∃ y2:gq,∃ y3:gn,∃ y4:gj,∃ y5:iK,∃ y6:jD,∃ y7:mL,P y0 y1 y2 y3 y4 y5 y6 y7:=⟨x0,x1,x2,x3,x4,x5,x6,x7,h⟩
theorem Mj {gw gu gq gn gj iK jD mL qb:Type}{P:gw->gu->gq->gn->gj->iK->jD->mL->qb->Prop}(x0:gw)(x1:gu)(x2:gq)(x3:gn)(x4:gj)(x5:iK)(x6:jD)(x7:mL)(x8:qb)(h:P x0 x1 x2 x3 x4 x5 x6 x7 x8):∃ y0:gw,∃ y1:gu,∃ y2:gq,∃ y3:gn,∃ y4:gj,∃ y5:iK,∃ y6:jD,∃ y7:mL,∃ y8:qb,P y0 y1 y2 y3 y4 y5 y6 y7 y8:=⟨x0,x1,x2,x3,x4,x5,x6,x7,x8,h⟩
theorem ON {gw gu gq gn gj iK jD mL qb vj:Type}{P:gw->gu->gq->gn->gj->iK->jD->mL->qb->vj->Prop}(x0:gw)(x1:gu)(x2:gq)(x3:gn)(x4:gj)(x5:iK)(x6:jD)(x7:mL)(x8:qb)(x9:vj)(h:P x0 x1 x2 x3 x4 x5 x6 x7 x8 x9):∃ y0:gw,∃ y1:gu,∃ y2:gq,∃ y3:gn,∃ y4:gj,∃ y5:iK,∃ y6:jD,∃ y7:mL,∃ y8:qb,∃ y9:vj,P y0 y1 y2 y3 y4 y5 y6 y7 y8 y9:=⟨x0,x1,x2,x3,x4,x5,x6,x7,x8,x9,h⟩
theorem OM {gw gu gq gn gj iK jD mL qb vj qd:Type}{P:gw->gu->gq->gn->gj->iK->jD->mL->qb->vj->qd->Prop}(x0:gw)(x1:gu)(x2:gq)(x3:gn)(x4:gj)(x5:iK)(x6:jD)(x7:mL)(x8:qb)(x9:vj)(PL:qd)(h:P x0 x1 x2 x3 x4 x5 x6 x7 x8 x9 PL):∃ y0:gw,∃ y1:gu,∃ y2:gq,∃ y3:gn,∃ y4:gj,∃ y5:iK,∃ y6:jD,∃ y7:mL,∃ y8:qb,∃ y9:vj,∃ T6:qd,P y0 y1 y2 y3 y4 y5 y6 y7 y8 y9 T6:=⟨x0,x1,x2,x3,x4,x5,x6,x7,x8,x9,PL,h⟩
theorem VX {gw gu gq gn gj iK jD mL qb vj qd MY:Type}{P:gw->gu->gq->gn->gj->iK->jD->mL->qb->vj->qd->MY->Prop}(x0:gw)(x1:gu)(x2:gq)(x3:gn)(x4:gj)(x5:iK)(x6:jD)(x7:mL)(x8:qb)(x9:vj)(PL:qd)(x11:MY)(h:P x0 x1 x2 x3 x4 x5 x6 x7 x8 x9 PL x11):∃ y0:gw,∃ y1:gu,∃ y2:gq,∃ y3:gn,∃ y4:gj,∃ y5:iK,∃ y6:jD,∃ y7:mL,∃ y8:qb,∃ y9:vj,∃ T6:qd,∃ y11:MY,P y0 y1 y2 y3 y4 y5 y6 y7 y8 y9 T6 y11:=⟨x0,x1,x2,x3,x4,x5,x6,x7,x8,x9,PL,x11,h⟩
theorem rS {K:PySem.W.Frag}{H:Hp}{a:Addr}{v0 v1:V}{Q:V->V->Prop}(h:H a=some (.tup [v0,v1]))(q:Q v0 v1):∃ a' xs,V.ref a=.ref a'/\bC K H a' xs/\xs.length=2/\∃ w0 r0,xs=w0::r0/\∃ w1 r1,r0=w1::r1/\r1=[]/\Q w0 w1:=⟨a,_,rfl,bC.of h,rfl,_,_,rfl,_,_,rfl,rfl,q⟩
theorem Yn {K:PySem.W.Frag}{H:Hp}{a:Addr}{v0 v1 v2:V}{Q:V->V->V->Prop}(h:H a=some (.tup [v0,v1,v2]))(q:Q v0 v1 v2):∃ a' xs,V.ref a=.ref a'/\bC K H a' xs/\xs.length=3/\∃ w0 r0,xs=w0::r0/\∃ w1 r1,r0=w1::r1/\∃ w2 r2,r1=w2::r2/\r2=[]/\Q w0 w1 w2:=⟨a,_,rfl,bC.of h,rfl,_,_,rfl,_,_,rfl,_,_,rfl,rfl,q⟩
theorem KU {K:PySem.W.Frag}{H:Hp}{a:Addr}{v0 v1 v2 v3:V}{Q:V->V->V->V->Prop}(h:H a=some (.tup [v0,v1,v2,v3]))(q:Q v0 v1 v2 v3):∃ a' xs,V.ref a=.ref a'/\bC K H a' xs/\xs.length=4/\∃ w0 r0,xs=w0::r0/\∃ w1 r1,r0=w1::r1/\∃ w2 r2,r1=w2::r2/\∃ w3 r3,r2=w3::r3/\r3=[]/\Q w0 w1 w2 w3:=⟨a,_,rfl,bC.of h,rfl,_,_,rfl,_,_,rfl,_,_,rfl,_,_,rfl,rfl,q⟩
theorem zr {α:Sort _}{A Q:α->Prop}{x:α}(a:A x)(q:Q x):∃ y,A y/\Q y:=⟨x,a,q⟩
theorem mO {α β:Sort _}{A Q:α->β->Prop}{x:α}{y:β}(a:A x y)(q:Q x y):∃ x y,A x y/\Q x y:=⟨x,y,a,q⟩
theorem aG {α β:Sort _}{A B Q:α->β->Prop}{x:α}{y:β}(a:A x y)(b:B x y)(q:Q x y):∃ x y,A x y/\B x y/\Q x y:=⟨x,y,a,b,q⟩
def M1 (ms:List M4)(j:Int):Int:=((ms[j.toNat]?).map (·.t)).getD 0
def Wi (ms:List M4)(k:Nat):List Int:=(numsTo ms k ms.length).map (M1 ms)
section
variable {n k w:Nat}{ms:List M4}{day:Int}
end
def nextOf (ts:List (Int×Int))(b:Int)(k:Nat):Int:=match ts[k + 1]? with
 | some q=>q.1
 | none=>b
end Sm
namespace L2
open PySem
end L2
namespace Sm
open PySem L2 aU
end Sm
namespace L2
open PySem
theorem MT.go {P p:Addr}{pos:Pos}{qual:Str}{H H':Hp}(m:MT P pos qual H)(pu:Sm.bB H p)(g:Sm.Go p H H'):MT P pos qual H':=by
 obtain ⟨x,y,z,e⟩:=pu;rcases m with m | ⟨c,m,m2⟩
 ·exact .inl (g.1 _ _ (bY m e (by intro z;cases z)) m)
 ·exact .inr ⟨c,g.1 _ _ (bY m e (by intro z;cases z)) m,g.1 _ _ (bY m2 e (by intro z;cases z)) m2⟩
theorem MT.put {P l:Addr}{pos:Pos}{qual:Str}{H:Hp}{xs:List V}{o:HO}(m:MT P pos qual H)(e:H l=some (.lst xs)):MT P pos qual (upd H l o):=by
 rcases m with m | ⟨c,m,m2⟩
 ·exact .inl (by rw [xR (bY m e (by intro z;cases z))];exact m)
 ·exact .inr ⟨c,by rw [xR (bY m e (by intro z;cases z))];exact m,by rw [xR (bY m2 e (by intro z;cases z))];exact m2⟩
end L2
namespace Sm
open PySem L2 aU
theorem MT.vq {T:Addr}{lp:Pos}{q:Str}{H H':Hp}(m:MT T lp q H)(b:bV T H H'):bL H H':=λx u e=>b x _ (λz=>by
 rcases m with m | ⟨_,m,_⟩ <;> (rw [z,m] at e;cases e)) e
theorem MT.keep {T:Addr}{lp:Pos}{q:Str}{H H':Hp}(m:MT T lp q H)(b:bV T H H'){x:Addr}{u:HO}(e:H x=some u)(n:∀ ys,u≠.jr ys):H' x=some u:=b x u (λz=>by
 rcases m with m | ⟨_,m,_⟩ <;> (rw [z,m] at e;cases e;exact n _ rfl)) e
theorem MT.Qj {T p:Addr}{lp:Pos}{q:Str}{H H':Hp}(m:MT T lp q H)(b:bV T H H')(pu:bB H p):bB H' p:=by obtain ⟨x,y,z,e⟩:=pu;exact ⟨x,y,z,MT.keep m b e (by intro ys z;cases z)⟩
theorem MT.seq {T:Addr}{lp:Pos}{q:Str}{K:PySem.W.Frag}{H H':Hp}{a:Addr}{xs:List V}(m:MT T lp q H)(b:bV T H H')(h:aJ K H a xs):aJ K H' a xs:=by
 rcases h with (h | ⟨o,h⟩) | h
 ·exact .inl (.inl (MT.keep m b h (by intro ys z;cases z)))
 ·exact .inl (.inr ⟨o,MT.keep m b h (by intro ys z;cases z)⟩)
 ·exact .inr h
structure L4 where
 s:Nat
 w:Nat
 a:Int
 z:Int
end Sm
namespace L2
open PySem PySem.Spec PyProof.Rows
end L2
namespace Sm
open PySem L2 aU
def WV (kv:List (Int×Int)):List (Key×V):=kv.map λp=>(Sum.inl p.1,V.int p.2)
theorem fu {kv:List (Int×Int)}{w:Int}:(cS (WV kv) (Sum.inl w)).isSome=kv.any λp=>decide (p.1=w):=by
 unfold cS WV;rw [xE,Option.isSome_map,List.find?_isSome,List.any_eq_true];constructor
 ·rintro ⟨p,hp,e⟩;obtain ⟨q,hq,rfl⟩:=zS.mp hp;have e1:=of_decide_eq_true e;exact ⟨q,hq,decide_eq_true (Sum.inl.inj e1)⟩
 ·rintro ⟨q,hq,e⟩;exact ⟨_,zS.mpr ⟨q,hq,rfl⟩,decide_eq_true (congrArg Sum.inl (of_decide_eq_true e))⟩
theorem map_some {α β:Type}{f:α->β}{o o':Option α}{a:α}(e:o.map f=o'.map f)(h:o'=some a):∃ b,o=some b/\f b=f a:=by
 subst h;cases o with
 | none=>cases e
 | some b=>exact ⟨b,rfl,Option.some.inj e⟩
open Classical in
noncomputable def cut (M:Addr->Prop) (H:Hp):Hp:=λc=>if M c then none else H c
abbrev Ds:=List (V×Option (Int×Int))
def VO (ms:List M4)(d:Option (Int×Int)):Bool:=match d with
 | none=>false
 | some (k,g)=>decide (0<=k) && (decide (k < ms.length) && (match ms[k.toNat]? with | some m=>decide (g=m.lo) || decide (g=m.hi) | none=>false))
def Wr (ms:List M4):Fn->Int->List (Option (Int×Int))->Option Fn
 | f,_,[]=>some f
 | _,_,none::_=>none
 | f,bh,some (k,g)::r=>match ms[k.toNat]? with
  | none=>none
  | some m=>if VO ms (some (k,g))=true/\bh < k/\below (f g.toNat) m.t=true then Wr ms (aF f ⟨g.toNat,(if g=m.lo then m.hi else m.lo).toNat,m.t⟩) k r else none
def tt (ms:List M4)(s:Nat)(a:Int):Option Ds->Option Fn
 | none=>none
 | some ps=>Wr ms (aC s a) (-1) (ps.map (·.2))
def bS (H:Hp)(l:Addr)(n:Nat)(ws:List (Addr×Nat×Int)):Prop:=H l=some (.lst (ws.map λx=>V.ref x.1))/\∀ x∈ws,H x.1=some (.tup [.int (x.2.1:Int),.int x.2.2])/\x.2.1 < n
theorem bS.same {H H':Hp}{l:Addr}{n:Nat}{ws:List (Addr×Nat×Int)}(h:bS H l n ws)(s:aA H H'):bS H' l n ws:=⟨s _ _ h.1,λx hx=>⟨s _ _ (h.2 x hx).1,(h.2 x hx).2⟩⟩
theorem fH {g a b:Int}:uE (V.int g) [V.int a,V.int b]=(decide (g=a) || decide (g=b)):=by rw [LS];congr 1 <;> exact decide_eq_decide.mpr eq_comm
section
variable {K:PySem.W.Frag}{H:Hp}{σ:St}{lt p:Addr}{n g:Nat}{f:Fn}{t:Int}{Q:VK}
end
section
variable {K:PySem.W.Frag}{H:Hp}{a b:Addr}{xs ys:List V}{lo hi:Option Int}{Q:VK}
end
section
variable {K:PySem.W.Frag}{D:Ends}{σ:St}{HI H:Hp}{l la lb lf:Addr}{x:V}{ss A C:List (Addr×Int×Int)}{n:Nat}{o:Option (Int×Int)}
end
section
variable {K:PySem.W.Frag}{D:Ends} {HI H0:Hp}{l la lb lf lm:Addr}{ms:List V}{ss A C:List (Addr×Int×Int)}{n:Nat} {s0 s1 s2 s3 s4 s5 s6 s8:Option V}
end
section
variable {K:PySem.W.Frag}{σ:St}{H:Hp}
end
section
variable {K:PySem.W.Frag}{σ:St}{H:Hp}
end
end Sm
namespace L2
end L2
namespace Sm
open PySem L2
structure R4 where
 th:Int
 bk:Int
 bg:List Int
 cm:List Int
theorem LK {α:Type}{ps:List (Addr×α)}{i:Nat}{r:Addr×α}(h:ps[i]?=some r):(ps.map (·.2))[i]?=some r.2:=by rw [zG,h];rfl
theorem Qd {s d M:Int}(e:s=1 + d)(h:d < M):s<=M:=by omega
end Sm
namespace L2
open PySem PySem.Spec PyProof.Rows
section
variable {prog:Program}{w:World}{A:Around}{R:Result->Shared->Prop}{s:Shared} {elt t1 i1 t2 i2:Expr} {Zo Zn:List Expr}{scope:Scope}{pos:Pos}{it acc:Value}{env:Env}
abbrev tests (ifs:List Expr)(env:Env):Sem Bool:=forIn ifs true λc r=>if r=true then do let ok <- isTrue c env (eval c env);pure (ForInStep.yield ok) else pure (ForInStep.yield r)
end
section
variable {X:Cx}{aa:List (Addr×Obj)}{σ:St}{H:Hp}{s:Shared}
end
section
variable {K:PySem.W.Frag}{a b:Addr}{xs ys:List V}{n:Nat}{caps:List Nat} {g g2:TG} {tc tc2:TT} {wi2:TI}{te:TE} {σ τ0:St}{H:Hp} {aaM:List V}{Qf:Addr->Hp->List V->Prop}{C:St->List V->Hp->Prop}
end
end L2
namespace Sm
open PySem L2
theorem getD_at {α:Type}{l:List α}{i:Nat}{x d:α}(h:l[i]?=some x):l.getD i d=x:=by rw [zb,h];rfl
end Sm
namespace Sm
open PySem L2 aU
structure Tie where
 h:Nat
 t:Nat
 m:Int
def hd (ts:List Tie)(a:Nat):Nat:=match ts[a / 2]? with
 | some x=>if a % 2=0 then x.t else x.h
 | none=>0
def nM (sp:List Int)(a:Nat):Int:=sp[a]?.getD 0
def oA (L:L4)(M:M4):Prop:=L.a < M.t/\L.s≠L.w/\(M.lo=(L.s:Int)\/M.hi=(L.s:Int))/\(M.lo=(L.w:Int)\/M.hi=(L.w:Int))
instance (L:L4) (M:M4):Decidable (oA L M):=by unfold oA;infer_instance
section
variable {af:List Int}{ms:List M4}{ls:List (Addr×L4)}{d:X5}{m j:Nat}{s:RS}{M:M4}{L:Addr×L4}{o:Option (Nat×Int)}
end
theorem eU:∀ {ms:List M4}{t:Int},(ms.Pairwise λa b=>a.t<=b.t)->∀ {j:Nat}{m:M4},ms[j]?=some m->(j < cnt ms t↔m.t<=t)
 | [],t,_,j,m,h=>by simp at h
 | a::ms,t,o,j,m,h=>by
  have o:=List.pairwise_cons.mp o;by_cases c:a.t<=t
  ·have e:cnt (a::ms) t=cnt ms t + 1:=by unfold cnt;rw [List.filter_cons,if_pos (by simp [c])];rfl
   rw [e];cases j with
   | zero=>cases h;exact ⟨λ_=>c,λ_=>by omega⟩
   | succ j=>rw [<-eU (t:=t) o.2 (j:=j) h];omega
  ·have e:cnt (a::ms) t=0:=by
    unfold cnt;rw [List.filter_cons,if_neg (by simp [c]),List.filter_eq_nil_iff.mpr (λm hm=>by have:=o.1 m hm;simp;omega)];rfl
   rw [e];have:a.t<=m.t:=by
    cases j with
    | zero=>cases h;exact zq _
    | succ j=>exact o.1 m (zD h)
   omega
theorem OU (ms:List M4)(t:Int):cnt ms t<=ms.length:=List.length_filter_le _ _
theorem kE {ms:List M4}(o:ms.Pairwise λa b=>a.t<=b.t){x z:Int}(h:x<=z):cnt ms x<=cnt ms z:=by refine Classical.byContradiction λc=>?_;have l:=OU ms x;have e:ms[cnt ms z]?=some ms[cnt ms z]:=zI (by omega);have h1:=(eU (t:=x) o e).mp (by omega);have h2:=(eU (t:=z) o e).mpr (by omega);omega
section
variable {lo hi:Nat->Nat}{g:Nat->Option Nat} {a s0:Nat}
end
end Sm
namespace Sm
open PySem L2
def SS (n:Nat)(f:Nat->Int):Int:=((List.range n).map f).sum
theorem iE {n:Nat}{f:Nat->Int}:SS (n + 1) f=SS n f + f n:=by unfold SS;rw [List.range_succ,zF,yt];simp
theorem tw {n:Nat}{f g:Nat->Int}(h:∀ k,k < n->f k<=g k):SS n f<=SS n g:=by
 induction n with
 | zero=>exact zq _
 | succ n ih=>
  rw [iE,iE];have:=ih λk hk=>h k (by omega);have:=h n (by omega);omega
theorem KL {n:Nat}{f g:Nat->Int}(h:∀ k,k < n->f k=g k):SS n f=SS n g:=by
 have a:=tw (n:=n) (f:=f) (g:=g) λk hk=>by rw [h k hk];exact zq _
 have b:=tw (n:=n) (f:=g) (g:=f) λk hk=>by rw [h k hk];exact zq _
 omega
theorem tu (n:Nat):SS n (λ_=>0)=0:=by
 induction n with
 | zero=>rfl
 | succ n ih=>rw [iE,ih];rfl
theorem rM {n:Nat}{f:Nat->Int}{j:Nat}{x:Int}(h:j < n):SS n (λk=>if k=j then x else f k) + f j=SS n f + x:=by
 induction n with
 | zero=>omega
 | succ n ih=>
  rw [iE,iE];by_cases e:j=n
  ·subst e;rw [if_pos rfl,KL (f:=λk=>if k=j then x else f k) (g:=f) λk hk=>by rw [if_neg (by omega)]];omega
  ·have:=ih (by omega);rw [if_neg (by omega:¬ n=j)];omega
theorem O2 {n:Nat}{f g:Nat->Int}{i j:Nat}(hi:i < n)(hj:j < n)(ne:i≠j)(h:∀ k,k < n->k≠i->k≠j->f k<=g k):SS n f + g i + g j<=SS n g + f i + f j:=by
 have a:=rM (n:=n) (f:=g) (x:=f i) hi;have b:=rM (n:=n) (f:=λk=>if k=i then f i else g k) (x:=f j) hj;rw [if_neg (Ne.symm ne)] at b;have c:=tw (n:=n) (f:=f) (g:=λk=>if k=j then f j else if k=i then f i else g k) λk hk=>by
  by_cases e1:k=j
  ·rw [if_pos e1,e1];exact zq _
  ·rw [if_neg e1];by_cases e2:k=i
   ·rw [if_pos e2,e2];exact zq _
   ·rw [if_neg e2];exact h k hk e2 e1
 omega
theorem O3 {n:Nat}{j:Nat}{x:Int}(h:j < n):SS n (λk=>if k=j then x else 0)=x:=by have:=rM (n:=n) (f:=λ_=>0) (x:=x) h;rw [tu] at this;omega
section
variable {af:List Int}{ms:List M4}{ls ws:List S3}{gs ts:List Bool}{rs:List (List Int)}
end
end Sm
namespace L2
open PySem PySem.Spec PyProof.Rows
end L2
namespace Sm
open PySem L2
abbrev nP:=Addr×List Int
abbrev cP:=Addr×List nP
structure jy (H:Hp) (l:Addr) (nm w sz:Nat) (P:List cP):Prop where
 top:H l=some (.lst (P.map λa=>V.ref a.1))
 str:∀ a∈P,H a.1=some (.lst (a.2.map λb=>V.ref b.1))
 row:∀ a∈P,∀ b∈a.2,H b.1=some (.lst (b.2.map V.int))
 len:P.length=nm + 1
 T7:∀ a∈P,a.2.length=w
 Ul:∀ a∈P,∀ b∈a.2,b.2.length=sz
 pos:∀ a∈P,∀ b∈a.2,∀ x∈b.2,(0:Int)<=x
theorem jy.same {H H':Hp}{l:Addr}{nm w sz:Nat}{P:List cP}(h:jy H l nm w sz P)(s:aA H H'):jy H' l nm w sz P:=
 ⟨s _ _ h.top,λa ha=>s _ _ (h.str a ha),λa ha b hb=>s _ _ (h.row a ha b hb),h.len,h.T7,h.Ul,h.pos⟩
abbrev Ru:=List (List (List Int))
def aO (P:List cP):Ru:=P.map λa=>a.2.map (·.2)
def cy (V:Ru)(i j s:Nat):Int:=((V.getD i []).getD j []).getD s 0
theorem sZ {P:List cP}{i j s:Nat}{a:cP}{b:nP}(h1:P[i]?=some a)(h2:a.2[j]?=some b):cy (aO P) i j s=b.2.getD s 0:=by unfold cy aO;simp only [zb,zG,h1,ye,Option.getD_some,h2]
theorem OE {xs:List Int}{s:Nat}{x:Int}(h:xs[s]?=some x):xs.getD s 0=x:=by rw [zb,h];rfl
theorem cW (ms:List M4)(z:Int):cnt ms z<=ms.length:=List.length_filter_le _ _
section
variable {H:Hp}{l:Addr}{nm w sz:Nat}{P:List cP}
end
theorem sV (a b:Nat):Builtin.bitAnd (a:Int) (b:Int)=((a &&& b:Nat):Int):=by unfold Builtin.bitAnd;rw [decide_eq_true (by omega:(0:Int)<=(a:Int))];rfl
theorem rY (k:Nat):(1:Int) * 2 ^ (k:Int).toNat=((2 ^ k:Nat):Int):=by rw [Int.one_mul,yG];push_cast;rfl
def iX (s k:Nat):Nat:=if s.testBit k then s - 2 ^ k else s
theorem Ml (s k:Nat):s &&& 2 ^ k=if s.testBit k then 2 ^ k else 0:=by
 refine zw λi=>?_;rw [yB,zo];by_cases e:k=i
 ·subst e;cases h:s.testBit k with
  | true=>rw [if_pos rfl,zo];simp
  | false=>rw [if_neg (by decide)];simp
 ·rw [decide_eq_false e,yk];split
  ·rw [zo,decide_eq_false e]
  ·simp
theorem LN (s k:Nat):(s:Int) - Builtin.bitAnd (s:Int) (((2 ^ k:Nat):Int))=((iX s k:Nat):Int):=by
 rw [sV,Ml];unfold iX;cases h:s.testBit k with
 | true=>
  have:=Nat.ge_two_pow_of_testBit h;rw [if_pos rfl,if_pos rfl];omega
 | false=>rw [if_neg (by decide),if_neg (by decide)];simp
def fz (s:Nat):List (Nat×Nat):=((List.range (s + 1)).filter λp=>p &&& s == p).map λp=>(p,s - p)
theorem cR {s p q:Nat}:(p,q)∈fz s↔(p<=s/\p &&& s=p)/\q=s - p:=by
 unfold fz;rw [zS];constructor
 ·rintro ⟨x,hx,e⟩;rw [List.mem_filter,zj,beq_iff_eq] at hx;cases e;exact ⟨⟨by omega,hx.2⟩,rfl⟩
 ·rintro ⟨⟨h1,h2⟩,rfl⟩;exact ⟨p,by rw [List.mem_filter,zj,beq_iff_eq];exact ⟨by omega,h2⟩,rfl⟩
def Lm:Sp:=λvs H Q _=>∃ l ws n,vs=[.ref l]/\bS H l n ws/\ws.length<=60/\Q (.int (((2 ^ ws.length:Nat):Int) - 1)) H
def vM:Sp:=λvs H Q _=>∃ s k:Nat,vs=[.int (s:Int),.int (k:Int)]/\k<=60/\Q (.int ((iX s k:Nat):Int)) H
def vK:Sp:=λvs H Q _=>∃ s:Nat,vs=[.int (s:Int)]/\s<=900/\∀ l (rs:List (Addr×Nat×Nat)) H',aA H H'->H' l=some (.lst (rs.map λr=>V.ref r.1))->(∀ r∈rs,H' r.1=some (.tup [.int (r.2.1:Int),.int (r.2.2:Int)]))->rs.map (·.2)=fz s->Q (.ref l) H'
structure iI (H:Hp) (b l lp:Addr) (af:List Int) (tr tm:Addr) (ps:List (Addr×M4)) (ws:List (Addr×Nat×Int)) (P:List cP):Prop where
 bk:aL H b af tr tm ps
 gd:Good af.length (ps.map (·.2))
 r1:1<=af.length
 ud:af.length<=12
 wa:bS H l af.length ws
 w1:1<=ws.length
 w4:ws.length<=4
 pr:jy H lp ps.length af.length (2 ^ ws.length) P
theorem iI.same {H H':Hp}{b l lp:Addr}{af:List Int}{tr tm:Addr}{ps:List (Addr×M4)}{ws:List (Addr×Nat×Int)}{P:List cP}(h:iI H b l lp af tr tm ps ws P)(s:aA H H'):iI H' b l lp af tr tm ps ws P:=
 ⟨h.bk.same s,h.gd,h.r1,h.ud,h.wa.same s,h.w1,h.w4,h.pr.same s⟩
theorem MA {n:Nat}(h:n<=4):2 ^ n<=16:=Nat.pow_le_pow_right (by decide) h
theorem fM {xs:List Int}{n:Nat}(h:n < xs.length):dS (xs.map V.int) (n:Int)=some (V.int (xs.getD n 0)):=
 xo (by rw [zG,zb,zI h];rfl)
theorem split_le {s:Nat}{r:Nat×Nat}(h:r∈fz s):r.1<=s/\r.2<=s:=by obtain ⟨p,q⟩:=r;obtain ⟨⟨h1,h2⟩,rfl⟩:=cR.mp h;exact ⟨h1,by simp only;omega⟩
theorem split_len (s:Nat):(fz s).length<=s + 1:=by unfold fz;rw [zA];exact zu (List.length_filter_le _ _) (by rw [yH];exact zB _)
theorem bS.VN {p:Addr}{H H':Hp}{l:Addr}{n:Nat}{ws:List (Addr×Nat×Int)}(h:bS H l n ws)(pu:bB H p)(n1:l≠p)(g:Go p H H'):bS H' l n ws:=
 ⟨g.1 _ _ n1 h.1,λx hx=>⟨g.aR pu _ _ (h.2 x hx).1,(h.2 x hx).2⟩⟩
section
variable {H H':Hp}{p f a:Addr}{o:HO}{nm w sz:Nat}
end
section
variable {H H' H0 H1 H2 HS:Hp}{p f c:Addr}{o:HO}{nm w sz:Nat}{xs:List V}
end
theorem Jx {a b:Nat}(h:a &&& b=0):a ||| b=a + b:=by
 obtain ⟨n,hn⟩:∃ n,a + b < 2 ^ n:=⟨a + b,Nat.lt_two_pow_self⟩;have ha:a < 2 ^ n:=by omega
 have hb:b < 2 ^ n:=by omega
 have z:BitVec.ofNat n a &&& BitVec.ofNat n b=0#n:=by
  apply BitVec.eq_of_toNat_eq;rw [BitVec.toNat_and,BitVec.toNat_ofNat,BitVec.toNat_ofNat,xC ha,xC hb,h];simp
 have e:=congrArg BitVec.toNat (BitVec.add_eq_or_of_and_eq_zero _ _ z);rw [BitVec.toNat_add,BitVec.toNat_or,BitVec.toNat_ofNat,BitVec.toNat_ofNat,xC ha,xC hb,xC hn] at e;exact e.symm
theorem oN {a b:Nat}(h:a &&& b=0):(a ||| b) - a=b:=by rw [Jx h];omega
def bD (p s:Nat):Prop:=∀ i,p.testBit i=true->s.testBit i=true
theorem dH {p s:Nat}:p &&& s=p↔bD p s:=by
 constructor
 ·intro h i hi;have:=congrArg (λz=>Nat.testBit z i) h;simp only [yB,hi,xD] at this;exact this
 ·intro h;refine zw λi=>?_;rw [yB];cases e:p.testBit i with
  | false=>rfl
  | true=>rw [h i e];rfl
theorem bD.le {p s:Nat}(h:bD p s):p<=s:=by rw [<-dH.mpr h];exact Nat.and_le_right
theorem iR {p s:Nat}(h:bD p s):p ||| (s - p)=s/\p &&& (s - p)=0/\∀ i,(s - p).testBit i=(s.testBit i && !p.testBit i):=by
 have d:p &&& (s ^^^ p)=0:=by
  refine zw λi=>?_;rw [yB,Nat.testBit_xor,z6];cases e:p.testBit i with
  | false=>rfl
  | true=>rw [h i e];rfl
 have o:p ||| (s ^^^ p)=s:=by
  refine zw λi=>?_;rw [zm,Nat.testBit_xor];cases e:p.testBit i with
  | false=>simp
  | true=>rw [h i e];rfl
 have e:s - p=s ^^^ p:=by have:=oN d;rw [o] at this;exact this
 rw [e];refine ⟨o,d,λi=>?_⟩;rw [Nat.testBit_xor];cases e:p.testBit i with
 | false=>simp
 | true=>rw [h i e];rfl
theorem kI {s:Nat}(h:∀ i,s.testBit i=false):s=0:=zw λi=>by rw [h i,z6]
theorem Kq {a b:Nat}(h:∀ i,a.testBit i=true->b.testBit i=false):a &&& b=0:=kI λi=>by
 rw [yB];cases e:a.testBit i with
 | false=>rfl
 | true=>rw [h i e];rfl
def bQ (P:Nat->Bool):Nat->Nat
 | 0=>0
 | k + 1=>bQ P k ||| (if P k then 2 ^ k else 0)
theorem dO (P:Nat->Bool):∀ k i,(bQ P k).testBit i=(decide (i < k) && P i)
 | 0,i=>by rw [bQ,z6];simp
 | k + 1,i=>by
  rw [bQ,zm,dO P k i];by_cases e:i=k
  ·subst e;cases h:P i <;> simp [h]
  ·cases h:P k
   ·rw [if_neg (by decide),z6];by_cases l:i < k
    ·simp [l,yi l]
    ·simp [l,show ¬ i < k + 1 by omega]
   ·rw [if_pos rfl,zo,decide_eq_false (Ne.symm e)];by_cases l:i < k
    ·simp [l,yi l]
    ·simp [l,show ¬ i < k + 1 by omega]
theorem Good.dY {w:Int}{ms:List M4}(gd:Good w ms):ms.Pairwise λa b=>a.t<=b.t:=gd.order.imp λh=>by rcases h with h | h <;> omega
abbrev Wq:=List (Nat×Int)
structure iH (ms:List M4) (V:Nat->Nat->Nat->Int) (W K:Nat) (ws:Wq):Prop where
 zero:∀ j,j<=ms.length->∀ w,w < W->V j w 0=0
 out:∀ k x,ws[k]?=some x->∀ j,j<=cnt ms x.2->∀ s,s < 2 ^ K->s.testBit k=true->V j x.1 s<=V j x.1 (s - 2 ^ k)
 keep:∀ j < ms.length,∀ w < W,∀ s < 2 ^ K,V j w s<=V (j + 1) w s
 give:∀ j g o t,cI ms j g o t->∀ a b,a &&& b=0->a ||| b < 2 ^ K->V j g (a ||| b)<=1 + V (j + 1) g a + V (j + 1) o b
theorem iH.keeps {ms:List M4}{V:Nat->Nat->Nat->Int}{W K:Nat}{ws:Wq}(F:iH ms V W K ws){w s:Nat}(hw:w < W)(hs:s < 2 ^ K){j:Nat}:∀ d,j + d<=ms.length->V j w s<=V (j + d) w s
 | 0,_=>zq _
 | d + 1,h=>ym (F.keeps hw hs d (by omega)) (F.keep (j + d) (by omega) w hw s hs)
inductive gP (ms:List M4):Nat->Fn->List (Nat×Nat)->Fn->Prop
 | nil (j:Nat) (f:Fn):gP ms j f [] f
 | cons {j m g o:Nat}{t x:Int}{f h:Fn}{T:List (Nat×Nat)} (hj:j<=m) (l:cI ms m g o t) (hx:f g=some x) (lt:x < t) (r:gP ms (m + 1) (if f o=none then put f o (some t) else f) T h):gP ms j f ((m,g)::T) h
def bN (f:Fn)(ws:Wq)(k:Nat):Bool:=match ws[k]? with
 | some x=>bJ (f x.1) x.2
 | none=>true
def aI (f:Fn)(ws:Wq):Prop:=∀ k:Nat,∀ x:Nat×Int,ws[k]?=some x->bJ (f x.1) x.2=true
theorem qL {ms:List M4}{V:Nat->Nat->Nat->Int}{W K:Nat}{ws:Wq}(F:iH ms V W K ws){j v a:Nat}(ha:a < 2 ^ K){P:Nat->Bool}(hP:∀ k,P k=true->∃ l,ws[k]?=some (v,l)/\j<=cnt ms l)(d:∀ k,P k=true->a.testBit k=false):∀ n,n<=K->V j v (a ||| bQ P n)<=V j v a
 | 0,_=>by rw [bQ,Nat.or_zero];exact zq _
 | n + 1,hn=>by
  have ih:=qL F ha hP d n (by omega);rw [bQ];cases e:P n with
  | false=>rw [if_neg (by decide),Nat.or_zero];exact ih
  | true=>
   rw [if_pos rfl,<- Nat.or_assoc];obtain ⟨l,hl,le⟩:=hP n e;have nb:(a ||| bQ P n).testBit n=false:=by rw [zm,d n e,dO];simp
   have dj:2 ^ n &&& (a ||| bQ P n)=0:=Kq λi hi=>by
    rw [zo] at hi;rw [<-of_decide_eq_true hi];exact nb
   have ml:bQ P n < 2 ^ K:=Nat.lt_pow_two_of_testBit _ λi hi=>by rw [dO];simp;omega
   have lt:a ||| bQ P n ||| 2 ^ n < 2 ^ K:=Nat.or_lt_two_pow (Nat.or_lt_two_pow ha ml) (Nat.pow_lt_pow_right (by decide) (by omega));have:=F.out n (v,l) hl j le _ lt (by rw [zm,zo];simp);rw [Nat.or_comm (a ||| bQ P n) (2 ^ n),oN dj] at this;rw [Nat.or_comm];exact ym this ih
theorem fJ {f:Fn}{ws:Wq}{k:Nat}{x:Nat×Int}(h:ws[k]?=some x):bN f ws k=bJ (f x.1) x.2:=by unfold bN;rw [h]
theorem LL {ms:List M4}{V:Nat->Nat->Nat->Int}{W K:Nat}{ws:Wq}(F:iH ms V W K ws)(gd:Good W ms)(hK:ws.length=K):∀ {j:Nat}{f h:Fn}{T:List (Nat×Nat)},gP ms j f T h->j<=ms.length->(∀ i x,f i=some x->i < W)->aI h ws ->
  ∃ s:Nat->Nat,(∀ w,s w < 2 ^ K)/\(∀ w,s w≠0->f w≠none)/\(∀ w w' k,(s w).testBit k=true->(s w').testBit k=true->w=w')/\(∀ w k,(s w).testBit k=true->k < K/\bN f ws k=false)/\(∀ k < K,bN f ws k=false->∃ w < W,(s w).testBit k=true)/\SS W (λw=>V j w (s w))<=T.length:=by
 intro j f h T tr;induction tr with
 | nil j f=>
  intro jn fw sv;refine ⟨λ_=>0,λ_=>yg K,λ_ h=>absurd rfl h,(λw w' k h=>by rw [z6] at h;cases h),(λw k h=>by rw [z6] at h;cases h),λk hk hf=>?_,?_⟩
  ·obtain ⟨x,hx⟩:∃ x,ws[k]?=some x:=⟨_,zI (by omega)⟩;rw [fJ hx,sv k x hx] at hf;cases hf
  ·rw [KL (g:=λ_=>0) λw hw=>F.zero j jn w hw,tu];exact zq _
 | @cons j m g o t x f h T hj l hx lt r ih=>
  intro jn fw sv;obtain ⟨gW,oW,go⟩:=l.inside gd;have mn:m < ms.length:=by obtain ⟨m',hm,_⟩:=l;exact (zC.mp hm).1
  obtain ⟨s,s1,s2,s3,s4,s5,s6⟩:=ih (by omega) (λi y hy=>by
   split at hy
   ·by_cases e:i=o
    ·rw [e];exact oW
    ·rw [wT e] at hy;exact fw i y hy
   ·exact fw i y hy) sv
  have kp:∀ w < W,∀ z < 2 ^ K,V j w z<=V m w z:=λw hw z hz=>by
   have:=F.keeps hw hz (j:=j) (m - j) (by omega);rwa [show j + (m - j)=m by omega] at this
  by_cases fo:f o=none
  ·rw [if_pos fo] at s2 s4 s5;rw [zZ]
   let P:Nat->Bool:=λk=>bN (put f o (some t)) ws k && !bN f ws k
   have hP:∀ k,P k=true->∃ l,ws[k]?=some (o,l)/\m + 1<=cnt ms l:=λk hk=>by
    simp only [P,zX,Bool.not_eq_true'] at hk;cases hw:ws[k]? with
    | none=>rw [show bN f ws k=true by unfold bN;rw [hw]] at hk;cases hk.2
    | some y=>
     rw [fJ hw,fJ hw] at hk;by_cases e:y.1=o
     ·refine ⟨y.2,by rw [<-e],?_⟩;rw [e,wx] at hk;obtain ⟨z,hz,le⟩:=aK.mp hk.1;cases hz;obtain ⟨m',hm,et,_⟩:=l;exact (eU gd.dY hm).mpr (by rw [et];exact le)
     ·rw [wT e] at hk;rw [hk.1] at hk;cases hk.2
   have hold:∀ k,bN f ws k=true->bN (put f o (some t)) ws k=true:=λk hk=>by
    cases hw:ws[k]? with
    | none=>unfold bN;rw [hw]
    | some y=>
     rw [fJ hw] at hk ⊢;by_cases e:y.1=o
     ·rw [e,fo] at hk;cases hk
     ·rw [wT e];exact hk
   let N:=bQ P K
   have nb:∀ i,N.testBit i=(decide (i < K) && P i):=dO P K;have nS:∀ w i,(s w).testBit i=true->N.testBit i=false:=λw i h=>by
    have:=(s4 w i h).2;rw [nb];simp only [P,this,yL,yk]
   have Nl:N < 2 ^ K:=Nat.lt_pow_two_of_testBit _ λi hi=>by rw [nb];simp;omega
   have so:s o ||| N < 2 ^ K:=Nat.or_lt_two_pow (s1 o) Nl;have d2:s g &&& (s o ||| N)=0:=Kq λi hi=>by
    rw [zm,nS g i hi];cases e:(s o).testBit i with
    | false=>rfl
    | true=>exact absurd (s3 g o i hi e) go
   have gl:s g ||| (s o ||| N) < 2 ^ K:=Nat.or_lt_two_pow (s1 g) so;have q1:=F.give m g o t l (s g) (s o ||| N) d2 gl;have q2:=qL F (s1 o) hP (λk hk=>by
    cases e:(s o).testBit k with
    | false=>rfl
    | true=>
     have:=(s4 o k e).2;simp only [P,this,yL] at hk;cases hk) K (zB _)
   have q2':V (m + 1) o (s o ||| N)<=V (m + 1) o (s o):=q2;have q3:=kp g gW _ gl;refine ⟨λw=>if w=g then s g ||| (s o ||| N) else if w=o then 0 else s w,λw=>?_,λw hw=>?_,λw w' k h1 h2=>?_,λw k hk=>?_,λk hk hf=>?_,?_⟩
   ·simp only;split
    ·exact gl
    ·split
     ·exact yg K
     ·exact s1 w
   ·by_cases e1:w=g
    ·rw [e1,hx];exact λz=>nomatch z
    ·simp only [if_neg e1] at hw;by_cases e2:w=o
     ·rw [if_pos e2] at hw;exact absurd rfl hw
     ·rw [if_neg e2] at hw;have:=s2 w hw;rwa [wT e2] at this
   ·have get:∀ u,(if u=g then s g ||| (s o ||| N) else if u=o then 0 else s u).testBit k=true->(u=g/\((s g).testBit k=true\/(s o).testBit k=true\/N.testBit k=true))\/(u≠g/\u≠o/\(s u).testBit k=true):=λu hu=>by
     by_cases e1:u=g
     ·rw [if_pos e1,zm,zm,yX,yX] at hu;exact .inl ⟨e1,hu⟩
     ·rw [if_neg e1] at hu;by_cases e2:u=o
      ·rw [if_pos e2,z6] at hu;cases hu
      ·rw [if_neg e2] at hu;exact .inr ⟨e1,e2,hu⟩
    rcases get w h1 with ⟨a1,b1⟩ | ⟨a1,c1,b1⟩ <;> rcases get w' h2 with ⟨a2,b2⟩ | ⟨a2,c2,b2⟩
    ·rw [a1,a2]
    ·rcases b1 with b1 | b1 | b1
     ·exact absurd (s3 _ _ _ b2 b1) a2
     ·exact absurd (s3 _ _ _ b2 b1) c2
     ·rw [nS _ _ b2] at b1;cases b1
    ·rcases b2 with b2 | b2 | b2
     ·exact absurd (s3 _ _ _ b1 b2) a1
     ·exact absurd (s3 _ _ _ b1 b2) c1
     ·rw [nS _ _ b1] at b2;cases b2
    ·exact s3 _ _ _ b1 b2
   ·dsimp only at hk;have low:∀ u,(s u).testBit k=true->k < K/\bN f ws k=false:=λu hu=>by
     refine ⟨(s4 u k hu).1,?_⟩;cases e:bN f ws k with
     | false=>rfl
     | true=>have:=(s4 u k hu).2;rw [hold k e] at this;cases this
    by_cases e1:w=g
    ·rw [if_pos e1,zm,zm,yX,yX] at hk;rcases hk with h | h | h
     ·exact low _ h
     ·exact low _ h
     ·rw [nb] at h;simp only [P,zX,decide_eq_true_eq,Bool.not_eq_true'] at h;exact ⟨h.1,h.2.2⟩
    ·rw [if_neg e1] at hk;by_cases e2:w=o
     ·rw [if_pos e2,z6] at hk;cases hk
     ·rw [if_neg e2] at hk;exact low _ hk
   ·cases e:bN (put f o (some t)) ws k with
    | true=>
     refine ⟨g,gW,?_⟩;dsimp only;rw [if_pos rfl,zm,zm,nb];simp [P,e,hf,hk]
    | false=>
     obtain ⟨w,hw,hb⟩:=s5 k hk e;by_cases e1:w=g
     ·exact ⟨g,gW,by dsimp only;rw [if_pos rfl,zm,<- e1,hb];rfl⟩
     ·by_cases e2:w=o
      ·exact ⟨g,gW,by dsimp only;rw [if_pos rfl,zm,zm,<- e2,hb];simp⟩
      ·exact ⟨w,hw,by dsimp only;rw [if_neg e1,if_neg e2];exact hb⟩
   ·have z:=O2 (n:=W) (f:=λw=>V j w (if w=g then s g ||| (s o ||| N) else if w=o then 0 else s w)) (g:=λw=>V (m + 1) w (s w)) gW oW go λw hw n1 n2=>by
     simp only [if_neg n1,if_neg n2];exact ym (kp w hw _ (s1 w)) (F.keep m mn w hw _ (s1 w))
    simp only [if_pos,if_neg (Ne.symm go),if_true] at z;have z0:=F.zero j jn o oW;rw [z0] at z
    push_cast
    omega
  ·rw [if_neg fo] at s2 s4 s5;refine ⟨s,s1,s2,s3,s4,s5,ym (tw λw hw=>ym (kp w hw _ (s1 w)) (F.keep m mn w hw _ (s1 w))) (ym s6 ?_)⟩;rw [zZ];omega
theorem qF {ms:List M4}{V:Nat->Nat->Nat->Int}{W K:Nat}{ws:Wq}(F:iH ms V W K ws)(gd:Good W ms)(hK:ws.length=K){v:Nat}{a:Int}{h:Fn}{T:List (Nat×Nat)}(hv:v < W)(tr:gP ms (cnt ms a) (aC v a) T h)(sv:aI h ws):V (cnt ms a) v (2 ^ K - 1)<=T.length:=by
 have cl:=cW ms a;obtain ⟨s,s1,s2,s3,s4,s5,s6⟩:=LL F gd hK tr cl (λi x hx=>by
  unfold aC at hx;split at hx
  ·rename_i e;rw [e];exact hv
  ·cases hx) sv
 have only:∀ w,w≠v->s w=0:=λw hw=>by
  by_cases e:s w=0
  ·exact e
  ·exact absurd (if_neg hw) (s2 w e)
 let P:Nat->Bool:=λk=>bN (aC v a) ws k
 have hP:∀ k,(P k && decide (k < K))=true->∃ l,ws[k]?=some (v,l)/\cnt ms a<=cnt ms l:=λk hk=>by
  simp only [P,zX,decide_eq_true_eq] at hk;obtain ⟨x,hx⟩:∃ x,ws[k]?=some x:=⟨_,zI (by omega)⟩;rw [fJ hx] at hk;obtain ⟨y,hy,le⟩:=aK.mp hk.1;unfold aC at hy;split at hy
  ·rename_i e;cases hy;exact ⟨x.2,by rw [<-e];exact hx,kE gd.dY le⟩
  ·cases hy
 have q:=qL F (s1 v) hP (λk hk=>by
  simp only [P,zX] at hk;cases e:(s v).testBit k with
  | false=>rfl
  | true=>rw [(s4 v k e).2] at hk;cases hk.1) K (zB _)
 have e:s v ||| bQ (λk=>P k && decide (k < K)) K=2 ^ K - 1:=by
  refine zw λi=>?_;rw [zm,dO,Nat.testBit_two_pow_sub_one];by_cases hi:i < K
  ·cases hb:bN (aC v a) ws i with
   | true=>simp [P,hb,hi]
   | false=>
    obtain ⟨w,hw,b⟩:=s5 i hi hb;by_cases e:w=v
    ·rw [e] at b;simp [b,hi]
    ·rw [only w e,z6] at b;cases b
  ·have:(s v).testBit i=false:=by
    cases b:(s v).testBit i with
    | false=>rfl
    | true=>exact absurd (s4 v i b).1 hi
   simp [this,hi]
 rw [e] at q;have z:SS W (λw=>V (cnt ms a) w (s w))=V (cnt ms a) v (s v):=by
  rw [<-O3 (n:=W) (j:=v) (x:=V (cnt ms a) v (s v)) hv];refine KL λw hw=>?_;by_cases e:w=v
  ·subst e;rw [if_pos rfl]
  ·rw [if_neg e,only w e];exact F.zero _ cl w hw
 omega
def dm (ms:List M4)(ws:Wq)(j w i:Nat):Bool:=match ws[i]? with
 | some x=>decide (x.1=w) && decide (j<=cnt ms x.2)
 | none=>false
def az (ms:List M4)(ws:Wq)(j w s:Nat):Nat:=bQ (λi=>s.testBit i && !dm ms ws j w i) ws.length
theorem wg {ms:List M4}{ws:Wq}{j w s:Nat}(hs:s < 2 ^ ws.length)(i:Nat):(az ms ws j w s).testBit i=(s.testBit i && !dm ms ws j w i):=by
 unfold az;rw [dO];by_cases h:i < ws.length
 ·simp [h]
 ·rw [Nat.testBit_lt_two_pow (zR hs (Nat.pow_le_pow_right (by decide) (by omega)))];simp
theorem wK {ms:List M4}{ws:Wq}{j w s:Nat}(hs:s < 2 ^ ws.length):bD (az ms ws j w s) s:=λi hi=>by
 rw [wg hs,zX] at hi;exact hi.1
theorem bD.lt {p s n:Nat}(h:bD p s)(hs:s < n):p < n:=zx h.le hs
theorem lU {ms:List M4}{ws:Wq}{j w s:Nat}(hs:s < 2 ^ ws.length):az ms ws j w (az ms ws j w s)=az ms ws j w s:=
 zw λi=>by
  rw [wg ((wK hs).lt hs),wg hs];cases s.testBit i <;> cases dm ms ws j w i <;> rfl
theorem lV {ms:List M4}{ws:Wq}{j w s t:Nat}(ht:t < 2 ^ ws.length)(h:bD s t):bD (az ms ws j w s) (az ms ws j w t):=λi hi=>by
 rw [wg (h.lt ht),zX] at hi;rw [wg ht,h i hi.1,hi.2];rfl
def dz (ms:List M4)(j:Nat)(F:Option (Nat->Nat->Int))(w s:Nat)(x:Int):Prop:=
 (s=0/\x=0)\/(s≠0/\match F with
  | none=>x=(ms.length:Int) + 1
  | some F=>((∀ o t,¬ cI ms j w o t)/\x=F w s)\/∃ o t,cI ms j w o t/\x<=F w s/\(∀ p,bD p s->x<=1 + F w p + F o (s - p))/\(x=F w s\/∃ p,bD p s/\x=1 + F w p + F o (s - p)))
def jb (ms:List M4)(ws:Wq)(j:Nat)(F:Option (Nat->Nat->Int))(w:Nat)(r:Nat->Int):Prop:=
 ∀ s < 2 ^ ws.length,(az ms ws j w s=s->dz ms j F w s (r s))/\r s=r (az ms ws j w s)
theorem jg {W:Nat}{ms:List M4}(gd:Good W ms){j g o o':Nat}{t t':Int}(h:cI ms j g o t)(h':cI ms j g o' t'):o=o'/\t=t':=by have i1:=(h.inside gd).2.2;have i2:=(h'.inside gd).2.2;obtain ⟨m,hm,e,c⟩:=h;obtain ⟨m',pe,e',c'⟩:=h';rw [hm] at pe;cases pe;rcases c with ⟨a1,a2⟩ | ⟨a1,a2⟩ <;> rcases c' with ⟨b1,b2⟩ | ⟨b1,b2⟩ <;> first | exact ⟨by omega,by omega⟩ | omega
structure c6 (ms:List M4) (V:Nat->Nat->Nat->Int) (W:Nat) (ws:Wq):Prop where
 last:∀ w < W,jb ms ws ms.length none w (V ms.length w)
 prev:∀ j < ms.length,∀ w < W,jb ms ws j (some (V (j + 1))) w (V j w)
section
variable {ms:List M4}{V:Nat->Nat->Nat->Int}{W:Nat}{ws:Wq}
theorem c6.row (D:c6 ms V W ws){j w s:Nat}(hj:j<=ms.length)(hw:w < W)(hs:s < 2 ^ ws.length):∃ F,(∀ G,F=some G->j < ms.length/\G=V (j + 1))/\(F=none->j=ms.length)/\dz ms j F w (az ms ws j w s) (V j w s):=by
 have os:=(wK (ms:=ms) (j:=j) (w:=w) hs).lt hs;by_cases e:j=ms.length
 ·subst e;refine ⟨none,(λG z=>nomatch z),λ_=>rfl,?_⟩;have:=D.last w hw s hs;rw [this.2];exact (D.last w hw _ os).1 (lU hs)
 ·refine ⟨some (V (j + 1)),λG z=>⟨by omega,by cases z;rfl⟩,(λz=>nomatch z),?_⟩;have:=D.prev j (by omega) w hw s hs;rw [this.2];exact (D.prev j (by omega) w hw _ os).1 (lU hs)
theorem c6.nonneg (D:c6 ms V W ws)(gd:Good W ms):∀ d j,j + d=ms.length->∀ w < W,∀ s < 2 ^ ws.length,0<=V j w s:=by
 intro d;induction d with
 | zero=>
  intro j e w hw s hs;obtain ⟨F,hF,hN,l⟩:=D.row (j:=j) (by omega) hw hs;rcases l with ⟨_,l⟩ | ⟨_,l⟩
  ·omega
  ·cases F with
   | none=>simp only at l;omega
   | some G=>have:=(hF G rfl).1;omega
 | succ d ih=>
  intro j e w hw s hs;obtain ⟨F,hF,hN,l⟩:=D.row (j:=j) (by omega) hw hs;have os:=(wK (ms:=ms) (j:=j) (w:=w) hs).lt hs;rcases l with ⟨_,l⟩ | ⟨_,l⟩
  ·omega
  ·cases F with
   | none=>simp only at l;omega
   | some G=>
    obtain ⟨_,rfl⟩:=hF G rfl;have n1:=ih (j + 1) (by omega) w hw _ os;rcases l with ⟨_,l⟩ | ⟨o,t,k,_,_,l | ⟨p,sp,l⟩⟩
    ·omega
    ·omega
    ·have n2:=ih (j + 1) (by omega) w hw p (sp.lt os);have n3:=ih (j + 1) (by omega) o (k.inside gd).2.1 _ (zx (Nat.sub_le _ p) os);omega
theorem c6.mono (D:c6 ms V W ws)(gd:Good W ms):∀ d j,j + d=ms.length->∀ w < W,∀ s t,t < 2 ^ ws.length->bD s t->V j w s<=V j w t:=by
 intro d;induction d with
 | zero=>
  intro j e w hw s t ht st;have hs:=st.lt ht;obtain ⟨F,hF,hN,l⟩:=D.row (j:=j) (by omega) hw hs;obtain ⟨F',VM,Xz,l'⟩:=D.row (j:=j) (by omega) hw ht;have so:=lV (ms:=ms) (j:=j) (w:=w) ht st;have nn:=D.nonneg gd 0 j e w hw t ht;rcases l with ⟨_,l⟩ | ⟨n0,l⟩
  ·omega
  ·rcases l' with ⟨z,_⟩ | ⟨_,l'⟩
   ·rw [z] at so;exact absurd (Nat.le_zero.mp so.le) n0
   ·cases F with
    | some G=>have:=(hF G rfl).1;omega
    | none=>cases F' with
     | some G=>have:=(VM G rfl).1;omega
     | none=>simp only at l l';omega
 | succ d ih=>
  intro j e w hw s t ht st;have hs:=st.lt ht;obtain ⟨F,hF,hN,l⟩:=D.row (j:=j) (by omega) hw hs;obtain ⟨F',VM,Xz,l'⟩:=D.row (j:=j) (by omega) hw ht;have so:=lV (ms:=ms) (j:=j) (w:=w) ht st;have nn:=D.nonneg gd (d + 1) j e w hw t ht;have os:=(wK (ms:=ms) (j:=j) (w:=w) hs).lt hs;have ot:=(wK (ms:=ms) (j:=j) (w:=w) ht).lt ht;have up:=ih (j + 1) (by omega);rcases l with ⟨_,l⟩ | ⟨n0,l⟩
  ·omega
  ·rcases l' with ⟨z,_⟩ | ⟨_,l'⟩
   ·rw [z] at so;exact absurd (Nat.le_zero.mp so.le) n0
   ·cases F with
    | none=>have:=hN rfl;omega
    | some G=>cases F' with
     | none=>have:=Xz rfl;omega
     | some G'=>
      obtain ⟨_,rfl⟩:=hF G rfl;obtain ⟨_,rfl⟩:=VM G' rfl;have u1:=up w hw _ _ ot so;rcases l with ⟨nl,l⟩ | ⟨o,tt,k,l1,l2,_⟩
      ·rcases l' with ⟨_,l'⟩ | ⟨o,tt,k,_⟩
       ·omega
       ·exact absurd k (nl o tt)
      ·rcases l' with ⟨nl,_⟩ | ⟨o',tt',k',_,_,l' | ⟨p,sp,l'⟩⟩
       ·exact absurd k (nl o tt)
       ·omega
       ·obtain ⟨rfl,rfl⟩:=jg gd k k';have pi:bD (p &&& az ms ws j w s) (az ms ws j w s):=λi hi=>by rw [yB,zX] at hi;exact hi.2
        have pp:bD (p &&& az ms ws j w s) p:=λi hi=>by rw [yB,zX] at hi;exact hi.1
        have rr:bD (az ms ws j w s - (p &&& az ms ws j w s)) (az ms ws j w t - p):=λi hi=>by
         rw [(iR pi).2.2,yB] at hi;rw [(iR sp).2.2];cases a1:(az ms ws j w s).testBit i with
         | false=>rw [a1] at hi;cases hi
         | true=>
          rw [a1] at hi;rw [so i a1];cases a2:p.testBit i with
          | false=>rfl
          | true=>rw [a2] at hi;cases hi
        have v1:=l2 _ pi;have v2:=up w hw _ _ (sp.lt ot) pp;have v3:=up o (k.inside gd).2.1 _ _ (zx (Nat.sub_le _ p) ot) rr;omega
theorem c6.eq (D:c6 ms V W ws){j w s:Nat}(hj:j<=ms.length)(hw:w < W)(hs:s < 2 ^ ws.length):V j w s=V j w (az ms ws j w s):=by
 by_cases e:j=ms.length
 ·subst e;exact (D.last w hw s hs).2
 ·exact (D.prev j (by omega) w hw s hs).2
theorem c6.OL (D:c6 ms V W ws)(gd:Good W ms)(LW:∀ x∈ws,x.1 < W):iH ms V W ws.length ws:=by
 have nn:∀ {j w s},j<=ms.length->w < W->s < 2 ^ ws.length->0<=V j w s:=λ{j w s} hj hw hs=>D.nonneg gd (ms.length - j) j (by omega) w hw s hs;have mo:∀ {j w s t},j<=ms.length->w < W->t < 2 ^ ws.length->bD s t->V j w s<=V j w t:=λ{j w s t} hj hw ht st=>D.mono gd (ms.length - j) j (by omega) w hw s t ht st;refine ⟨λj hj w hw=>?_,λk x hx j hj s hs hb=>?_,λj hj w hw s hs=>?_,λj g o t k a b d lt=>?_⟩
 ·have z:az ms ws j w 0=0:=kI λi=>by rw [wg (yg _),z6];rfl
  obtain ⟨F,_,_,l⟩:=D.row hj hw (yg ws.length);rw [z] at l;rcases l with ⟨_,l⟩ | ⟨n0,_⟩
  ·exact l
  ·exact absurd rfl n0
 ·have hw:=LW x (zD hx);have kR:j<=ms.length:=zu hj (cW _ _);have p2:bD (2 ^ k) s:=λi hi=>by
   rw [zo] at hi;rw [<-of_decide_eq_true hi];exact hb
  rw [D.eq kR hw hs,D.eq kR hw (s:=s - 2 ^ k) (zx (Nat.sub_le _ _) hs)];refine Int.le_of_eq (congrArg _ (zw λi=>?_));rw [wg hs,wg (zx (Nat.sub_le _ _) hs),(iR p2).2.2,zo];by_cases e:k=i
  ·subst e;have:dm ms ws j x.1 k=true:=by
    unfold dm;rw [hx];simp only [decide_true,xD];exact decide_eq_true hj
   rw [this];simp
  ·simp [e]
 ·obtain ⟨F,hF,hN,l⟩:=D.row (j:=j) (by omega) hw hs;have os:=wK (ms:=ms) (j:=j) (w:=w) hs;rcases l with ⟨_,l⟩ | ⟨_,l⟩
  ·rw [l];exact nn hj hw hs
  ·cases F with
   | none=>have:=hN rfl;omega
   | some G=>
    obtain ⟨_,rfl⟩:=hF G rfl;have u:=mo (j:=j + 1) hj hw hs os;rcases l with ⟨_,l⟩ | ⟨_,_,_,l,_⟩ <;> omega
 ·obtain ⟨gW,oW,_⟩:=k.inside gd;have jn:j < ms.length:=by obtain ⟨m',hm,_⟩:=k;exact (zC.mp hm).1
  obtain ⟨F,hF,hN,l⟩:=D.row (j:=j) (by omega) gW lt;have al:a < 2 ^ ws.length:=zx Nat.left_le_or lt;have bl:b < 2 ^ ws.length:=zx Nat.right_le_or lt;have os:=wK (ms:=ms) (j:=j) (w:=g) lt;have n1:=nn (j:=j + 1) (by omega) gW al;have n2:=nn (j:=j + 1) (by omega) oW bl;rcases l with ⟨_,l⟩ | ⟨_,l⟩
  ·omega
  ·cases F with
   | none=>have:=hN rfl;omega
   | some G=>
    obtain ⟨_,rfl⟩:=hF G rfl;rcases l with ⟨nl,_⟩ | ⟨o',t',k',_,l,_⟩
    ·exact absurd k (nl o t)
    ·obtain ⟨rfl,rfl⟩:=jg gd k k';have pi:bD (a &&& az ms ws j g (a ||| b)) (az ms ws j g (a ||| b)):=λi hi=>by rw [yB,zX] at hi;exact hi.2
     have pp:bD (a &&& az ms ws j g (a ||| b)) a:=λi hi=>by rw [yB,zX] at hi;exact hi.1
     have rr:bD (az ms ws j g (a ||| b) - (a &&& az ms ws j g (a ||| b))) b:=λi hi=>by
      rw [(iR pi).2.2,yB] at hi;cases a1:(az ms ws j g (a ||| b)).testBit i with
      | false=>rw [a1] at hi;cases hi
      | true=>
       have:=os i a1;rw [a1] at hi;rw [zm] at this;cases a2:a.testBit i with
       | false=>rw [a2] at this;exact this
       | true=>rw [a2] at hi;cases hi
     have v1:=l _ pi;have v2:=mo (j:=j + 1) (by omega) gW al pp;have v3:=mo (j:=j + 1) (by omega) oW bl rr;omega
end
inductive aS (ms:List M4) (v j0:Nat) (G:List (Nat×Nat)):Nat->Nat->Prop
 | root:aS ms v j0 G j0 v
 | keep {j w:Nat}:aS ms v j0 G j w->aS ms v j0 G (j + 1) w
 | give {j g o:Nat}{t:Int}:aS ms v j0 G j g->(j,g)∈G->cI ms j g o t->aS ms v j0 G (j + 1) o
theorem aS.ge {ms:List M4}{v j0 j w:Nat}{G:List (Nat×Nat)}(h:aS ms v j0 G j w):j0<=j:=by
 induction h with
 | root=>exact zB _
 | keep _ ih=>omega
 | give _ _ _ ih=>omega
theorem aS.mono {ms:List M4}{v j0 j w:Nat}{G G':List (Nat×Nat)}(s:∀ x∈G,x∈G')(h:aS ms v j0 G j w):aS ms v j0 G' j w:=by
 induction h with
 | root=>exact .root
 | keep _ ih=>exact .keep ih
 | give _ m l ih=>exact .give ih (s _ m) l
theorem aS.inv {ms:List M4}{v j0 j w:Nat}{G:List (Nat×Nat)}(h:aS ms v j0 G (j + 1) w)(ge:j0<=j):aS ms v j0 G j w\/∃ g t,aS ms v j0 G j g/\(j,g)∈G/\cI ms j g w t:=by
 generalize e:j + 1=i at h;cases h with
 | root=>omega
 | keep k=>obtain rfl:=Nat.succ.inj e;exact .inl k
 | give k m l=>obtain rfl:=Nat.succ.inj e;exact .inr ⟨_,_,k,m,l⟩
def cQ (ms:List M4)(v:Nat)(a:Int)(i w:Nat)(x:Int):Prop:=(x=a/\w=v)\/∃ m o,m < i/\cI ms m o w x
theorem cQ.mono {ms:List M4}{v:Nat}{a:Int}{i k w:Nat}{x:Int}(h:cQ ms v a i w x)(le:i<=k):cQ ms v a k w x:=by
 rcases h with h | ⟨m,o,l,k⟩
 ·exact .inl h
 ·exact .inr ⟨m,o,by omega,k⟩
theorem uv {W:Nat}{ms:List M4}(gd:Good W ms){m m' w o o':Nat}{x t:Int}(h:cI ms m o w x)(h':cI ms m' w o' t)(lt:m < m'):x < t:=by
 obtain ⟨r,hr,e,c⟩:=h;obtain ⟨r',uG,e',c'⟩:=h';have f:=gd.each r (zD hr);have f':=gd.each r' (zD uG);have od:=yQ.mp gd.order m m' (zC.mp hr).1 (zC.mp uG).1 lt;rw [(zC.mp hr).2,(zC.mp uG).2] at od;rcases od with od | ⟨_,_,ap⟩
 ·omega
 ·unfold apart at ap;rcases c with ⟨a1,a2⟩ | ⟨a1,a2⟩ <;> rcases c' with ⟨b1,b2⟩ | ⟨b1,b2⟩ <;> omega
theorem cQ.lt {W:Nat}{ms:List M4}(gd:Good W ms){v:Nat}{a:Int}{m w o:Nat}{x t:Int}(h:cQ ms v a m w x)(ge:cnt ms a<=m)(k:cI ms m w o t):x < t:=by
 rcases h with ⟨rfl,_⟩ | ⟨m',o',l,k'⟩
 ·obtain ⟨r,hr,e,_⟩:=k;have:=eU gd.dY hr (t:=x);rw [e] at this;omega
 ·exact uv gd k' k l
theorem gP.lower {ms:List M4}{j:Nat}{f h:Fn}{T:List (Nat×Nat)}(tr:gP ms (j + 1) f T h):gP ms j f T h:=by
 cases tr with
 | nil=>exact .nil j f
 | cons hj l hx lt r=>exact .cons (by omega) l hx lt r
theorem vZ {W:Nat}{ms:List M4}(gd:Good W ms){v:Nat}{a:Int}{G:List (Nat×Nat)}:∀ d j (f:Fn),j + d=ms.length->cnt ms a<=j->(∀ w,aS ms v (cnt ms a) G j w->∃ x,f w=some x/\cQ ms v a j w x)->(∀ w x,f w=some x->cQ ms v a j w x) ->
  ∃ T h,gP ms j f T h/\(∀ x∈T,x∈G)/\(∀ x∈T,j<=x.1)/\(T.Pairwise λx y=>x.1 < y.1)/\(∀ w x,f w=some x->h w=some x)/\(∀ i w,j<=i->i<=ms.length->aS ms v (cnt ms a) G i w->∃ x,h w=some x/\cQ ms v a i w x):=by
 intro d;induction d with
 | zero=>
  intro j f e ge hf hE;refine ⟨[],f,.nil j f,(λ_ z=>nomatch z),(λ_ z=>nomatch z),.nil,λ_ _ h=>h,λi w h1 h2 k=>?_⟩;obtain rfl:i=j:=by omega
  exact hf w k
 | succ d ih=>
  intro j f e ge hf hE;obtain ⟨r,hr⟩:∃ r,ms[j]?=some r:=⟨_,zI (by omega)⟩;have fr:=gd.each r (zD hr)
  -- Lb three Yh of this R0
  by_cases gv:∃ g o t,cI ms j g o t/\f g≠none/\f o=none/\(j,g)∈G
  ·obtain ⟨g,o,t,l,fg,fo,mG⟩:=gv;obtain ⟨x,hx⟩:∃ x,f g=some x:=Option.ne_none_iff_exists'.mp fg;have lt:=(hE g x hx).lt gd ge l;have inv:∀ w x,(put f o (some t)) w=some x->cQ ms v a (j + 1) w x:=λw x h=>by
    by_cases e:w=o
    ·subst e;rw [wx] at h;cases h;exact .inr ⟨j,g,xA _,l⟩
    ·rw [wT e] at h;exact (hE w x h).mono (z8 _)
   obtain ⟨T,h,tr,tG,tj,tp,keep,all⟩:=ih (j + 1) (put f o (some t)) (by omega) (by omega) (λw k=>by
    rcases k.inv ge with k | ⟨g',t',k,m,l'⟩
    ·obtain ⟨x,hx,ex⟩:=hf w k;exact ⟨x,by rw [wT λe=>by rw [e,fo] at hx;cases hx];exact hx,ex.mono (z8 _)⟩
    ·obtain ⟨x',Xb,_⟩:=hf g' k;by_cases e:w=o
     ·subst e;exact ⟨t,wx,.inr ⟨j,g,xA _,l⟩⟩
     ·-- then w is Lb XN itself
      have:w=g:=by
       obtain ⟨m1,h1,_,c1⟩:=l;obtain ⟨m2,h2,_,c2⟩:=l';rw [h1] at h2;cases h2;rcases c1 with ⟨p1,p2⟩ | ⟨p1,p2⟩ <;> rcases c2 with ⟨q1,q2⟩ | ⟨q1,q2⟩ <;> omega
      subst this;exact ⟨x,by rw [wT e];exact hx,(hE w x hx).mono (z8 _)⟩) inv
   refine ⟨(j,g)::T,h,.cons (zB _) l hx lt (by rw [if_pos fo];exact tr),?_,?_,?_,λw y hy=>keep w y (by rw [wT λe=>by rw [e,fo] at hy;cases hy];exact hy),λi w h1 h2 k=>?_⟩
   ·intro y hy;rcases zP.mp hy with e | e
    ·rw [e];exact mG
    ·exact tG y e
   ·intro y hy;rcases zP.mp hy with e | e
    ·rw [e];exact zB _
    ·exact Nat.le_of_succ_le (tj y e)
   ·exact .cons (λy hy=>tj y hy) tp
   ·by_cases e:i=j
    ·subst e;obtain ⟨x,hx,ex⟩:=hf w k;exact ⟨x,keep w x (by rw [wT λe=>by rw [e,fo] at hx;cases hx];exact hx),ex⟩
    ·exact all i w (by omega) h2 k
  ·obtain ⟨T,h,tr,tG,tj,tp,keep,all⟩:=ih (j + 1) f (by omega) (by omega) (λw k=>by
    rcases k.inv ge with k | ⟨g',t',k,m,l'⟩
    ·obtain ⟨x,hx,ex⟩:=hf w k;exact ⟨x,hx,ex.mono (z8 _)⟩
    ·obtain ⟨x',Xb,_⟩:=hf g' k;cases fw:f w with
     | some x=>exact ⟨x,rfl,(hE w x fw).mono (z8 _)⟩
     | none=>exact absurd ⟨g',w,t',l',by rw [Xb];exact (λz=>nomatch z),fw,m⟩ gv) (λw x h=>(hE w x h).mono (z8 _))
   refine ⟨T,h,tr.lower,tG,λy hy=>Nat.le_of_succ_le (tj y hy),tp,keep,λi w h1 h2 k=>?_⟩;by_cases e:i=j
   ·subst e;obtain ⟨x,hx,ex⟩:=hf w k;exact ⟨x,keep w x hx,ex⟩
   ·exact all i w (by omega) h2 k
theorem Mh {W:Nat}{ms:List M4}(gd:Good W ms):∀ d j (f:Fn),j + d=ms.length->∃ T,gP ms j f T (fwd (ms.drop j) f)/\T.length<=d:=by
 intro d;induction d with
 | zero=>
  intro j f e;rw [List.drop_eq_nil_of_le (by omega)];exact ⟨[],.nil j f,zB _⟩
 | succ d ih=>
  intro j f e;obtain ⟨m,hm⟩:∃ m,ms[j]?=some m:=⟨_,zI (by omega)⟩;have ed:ms.drop j=m::ms.drop (j + 1):=by
   rw [List.drop_eq_getElem_cons (by omega)];rw [(zC.mp hm).2]
  rw [ed,Ke];have l1:cI ms j m.lo.toNat m.hi.toNat m.t:=⟨m,hm,rfl,.inl ⟨rfl,rfl⟩⟩;have l2:cI ms j m.hi.toNat m.lo.toNat m.t:=⟨m,hm,rfl,.inr ⟨rfl,rfl⟩⟩;have ne:=(l1.inside gd).2.2;by_cases c1:f m.hi.toNat=none/\below (f m.lo.toNat) m.t=true
  ·obtain ⟨y,hy,lt⟩:=aH.mp c1.2;have e1:aF f ⟨m.lo.toNat,m.hi.toNat,m.t⟩=put f m.hi.toNat (some m.t):=if_pos c1;have e2:aF (put f m.hi.toNat (some m.t)) ⟨m.hi.toNat,m.lo.toNat,m.t⟩=put f m.hi.toNat (some m.t):=if_neg λz=>by
    have:=z.1;simp only at this;rw [wT ne,hy] at this;cases this
   rw [e1,e2];obtain ⟨T,tr,le⟩:=ih (j + 1) (put f m.hi.toNat (some m.t)) (by omega);exact ⟨(j,m.lo.toNat)::T,.cons (zB _) l1 hy lt (by rw [if_pos c1.1];exact tr),Nat.succ_le_succ le⟩
  ·have e1:aF f ⟨m.lo.toNat,m.hi.toNat,m.t⟩=f:=if_neg c1;rw [e1];by_cases c2:f m.lo.toNat=none/\below (f m.hi.toNat) m.t=true
   ·obtain ⟨y,hy,lt⟩:=aH.mp c2.2;have e2:aF f ⟨m.hi.toNat,m.lo.toNat,m.t⟩=put f m.lo.toNat (some m.t):=if_pos c2;rw [e2];obtain ⟨T,tr,le⟩:=ih (j + 1) (put f m.lo.toNat (some m.t)) (by omega);exact ⟨(j,m.hi.toNat)::T,.cons (zB _) l2 hy lt (by rw [if_pos c2.1];exact tr),Nat.succ_le_succ le⟩
   ·have e2:aF f ⟨m.hi.toNat,m.lo.toNat,m.t⟩=f:=if_neg c2;rw [e2];obtain ⟨T,tr,le⟩:=ih (j + 1) f (by omega);exact ⟨T,tr.lower,by omega⟩
theorem gP.since {W:Nat}{ms:List M4}(gd:Good W ms){v:Nat}{a:Int}{h:Fn}{T:List (Nat×Nat)}(tr:gP ms 0 (aC v a) T h):gP ms (cnt ms a) (aC v a) T h:=by
 generalize ef:aC v a=f at tr ⊢;cases tr with
 | nil=>exact .nil _ _
 | @cons _ m g o t x _ _ T hj l hx lt r=>
  refine .cons ?_ l hx lt r;rw [<-ef] at hx;unfold aC at hx;split at hx
  ·cases hx;obtain ⟨m',hm,e,_⟩:=l;have:=eU gd.dY hm (t:=a);rw [e] at this;omega
  ·cases hx
theorem K8 {ms:List M4}{V:Nat->Nat->Nat->Int}{W:Nat}{ws:Wq}(F:iH ms V W ws.length ws)(gd:Good W ms){v:Nat}{a:Int}(hv:v < W)(sv:aI (fwd ms (aC v a)) ws):V (cnt ms a) v (2 ^ ws.length - 1)<=ms.length:=by obtain ⟨T,tr,le⟩:=Mh gd ms.length 0 (aC v a) (by omega);rw [List.drop_zero] at tr;have:=qF F gd rfl hv (tr.since gd) sv;omega
theorem qK {α:Type}[DecidableEq α]:∀ {T G:List α},T.Nodup->(∀ x∈T,x∈G)->G.length<=T.length->T.Perm G
 | [],G,_,_,l=>by
  have:G=[]:=List.eq_nil_of_length_eq_zero (Nat.le_zero.mp l);rw [this]
 | x::T,G,nd,s,l=>by
  rw [yf] at nd;have mx:=s x (.head _);have le:=List.length_erase_of_mem mx;have pos:0 < G.length:=List.length_pos_of_mem mx;refine ((qK (T:=T) (G:=G.erase x) nd.2 (λy hy=>?_) (by rw [zZ] at l;omega)).cons x).trans (List.perm_cons_erase mx).symm;exact (List.mem_erase_of_ne λe=>nd.1 (by rw [<-e];exact hy)).mpr (s y (.tail _ hy))
theorem M9 {ms:List M4}{V:Nat->Nat->Nat->Int}{W:Nat}{ws:Wq}(F:iH ms V W ws.length ws)(gd:Good W ms){v:Nat}{a:Int}(hv:v < W){G:List (Nat×Nat)}(eG:(G.length:Int)=V (cnt ms a) v (2 ^ ws.length - 1))(sG:∀ (k:Nat) (x:Nat×Int),ws[k]?=some x->∃ j,j<=cnt ms x.2/\aS ms v (cnt ms a) G j x.1)(own:∀ x∈ws,x.1=v->a<=x.2) :
  ∃ T h,gP ms (cnt ms a) (aC v a) T h/\aI h ws/\(T.length:Int)=V (cnt ms a) v (2 ^ ws.length - 1)/\T.Perm G/\T.Pairwise λx y=>x.1 < y.1:=by
 have cl:=cW ms a;obtain ⟨T,h,tr,tG,_,tp,_,all⟩:=vZ gd (v:=v) (a:=a) (G:=G) (ms.length - cnt ms a) (cnt ms a) (aC v a) (by omega) (zB _) (λw k=>by
  have:w=v:=by
   generalize e:cnt ms a=i at k;have k':=k;cases k with
   | root=>rfl
   | keep q=>have:=q.ge;omega
   | give q=>have:=q.ge;omega
  subst this;exact ⟨a,if_pos rfl,.inl ⟨rfl,rfl⟩⟩) (λw x hx=>by
   unfold aC at hx;split at hx
   ·rename_i e;cases hx;exact .inl ⟨rfl,e⟩
   ·cases hx)
 have sv:aI h ws:=λk x hx=>by
  obtain ⟨j,hj,hh⟩:=sG k x hx;obtain ⟨y,hy,ey⟩:=all j x.1 hh.ge (zu hj (cW _ _)) hh;rw [hy];refine aK.mpr ⟨y,rfl,?_⟩;rcases ey with ⟨rfl,e⟩ | ⟨m,o,lt,l⟩
  ·exact own x (zD hx) e
  ·obtain ⟨m',hm,e,_⟩:=l;have:=(eU gd.dY hm (t:=x.2)).mp (by omega);omega
 have nd:T.Nodup:=tp.imp λl e=>by rw [e] at l;exact absurd l (zy _)
 have lo:=qF F gd rfl hv tr sv;have pm:=qK nd tG (by omega);exact ⟨T,h,tr,sv,by rw [pm.length_eq];exact eG,pm,tp⟩
abbrev fh:=Nat×Nat×Nat
structure bF (ms:List M4) (V:Nat->Nat->Nat->Int) (W:Nat) (ws:Wq) (v:Nat) (a:Int) (G:List (Nat×Nat)) (ps:List fh):Prop where
 p:∀ x∈ps,x.1<=ms.length/\x.2.1 < W/\x.2.2 < 2 ^ ws.length/\aS ms v (cnt ms a) G x.1 x.2.1
 g:∀ x∈G,x.1 < ms.length/\x.2 < W
 c:(G.length:Int) + (ps.map λx=>V x.1 x.2.1 x.2.2).sum=V (cnt ms a) v (2 ^ ws.length - 1)
 s:∀ (k:Nat) (x:Nat×Int),ws[k]?=some x->(∃ y∈ps,y.2.2.testBit k=true)\/∃ j,j<=cnt ms x.2/\aS ms v (cnt ms a) G j x.1
def fF (n:Nat)(ps:List fh):Nat:=(ps.map λx=>3 ^ (n - x.1)).sum
theorem ig (n:Nat)(ps:List fh)(x:fh):fF n (ps++[x])=fF n ps + 3 ^ (n - x.1):=by unfold fF;rw [zF,yt];simp
section
variable {ms:List M4}{V:Nat->Nat->Nat->Int}{W:Nat}{ws:Wq}{v:Nat}{a:Int}{G:List (Nat×Nat)}{ps:List fh}{j w s:Nat}
theorem bF.start (hv:v < W):bF ms V W ws v a [] [(cnt ms a,v,2 ^ ws.length - 1)]:=by
 refine ⟨λx hx=>?_,(λ_ z=>nomatch z),?_,λk x hx=>.inl ⟨_,.head _,?_⟩⟩
 ·cases zN.mp hx;have:=yg ws.length;exact ⟨cW _ _,hv,by show _ - 1 < _;omega,.root⟩
 ·simp
 ·show (2 ^ ws.length - 1).testBit k=true;rw [Nat.testBit_two_pow_sub_one];exact decide_eq_true (zC.mp hx).1
theorem bF.jd (D:c6 ms V W ws)(gd:Good W ms)(e:bF ms V W ws v a G (ps++[(j,w,s)])):0<=(ps.map λx=>V x.1 x.2.1 x.2.2).sum:=by
 have:∀ qs:List fh,(∀ x∈qs,x.1<=ms.length/\x.2.1 < W/\x.2.2 < 2 ^ ws.length)->0<=(qs.map λx=>V x.1 x.2.1 x.2.2).sum:=λqs=>by
  induction qs with
  | nil=>intro _;exact zq _
  | cons x qs ih=>
   intro h;obtain ⟨h1,h2,h3⟩:=h x (.head _);have:=D.nonneg gd (ms.length - x.1) x.1 (by omega) x.2.1 h2 x.2.2 h3;have:=ih λy hy=>h y (.tail _ hy);rw [za,List.sum_cons];omega
 exact this ps λx hx=>by
  have:=e.p x (zT _ hx);exact ⟨this.1,this.2.1,this.2.2.1⟩
theorem bF.last (e:bF ms V W ws v a G (ps++[(j,w,s)])):j<=ms.length/\w < W/\s < 2 ^ ws.length/\aS ms v (cnt ms a) G j w:=e.p (j,w,s) (zE _ (.head _))
theorem bF.sum (e:bF ms V W ws v a G (ps++[(j,w,s)])):(G.length:Int) + (ps.map λx=>V x.1 x.2.1 x.2.2).sum + V j w s=V (cnt ms a) v (2 ^ ws.length - 1):=by have:=e.c;rw [zF,yt] at this;simp only [za,yU,List.sum_cons,List.sum_nil] at this;omega
theorem bF.bits (e:bF ms V W ws v a G (ps++[(j,w,s)]))(k:Nat)(x:Nat×Int)(hx:ws[k]?=some x):(∃ y∈ps,y.2.2.testBit k=true)\/(az ms ws j w s).testBit k=true\/∃ j,j<=cnt ms x.2/\aS ms v (cnt ms a) G j x.1:=by
 rcases e.s k x hx with ⟨y,hy,b⟩ | h
 ·rcases zQ.mp hy with m | m
  ·exact .inl ⟨y,m,b⟩
  ·cases zN.mp m;rw [wg e.last.2.2.1];cases d:dm ms ws j w k with
   | false=>right;left;simp only at b;rw [b];rfl
   | true=>
    right;right;unfold dm at d;rw [hx] at d;simp only [zX,decide_eq_true_eq] at d;exact ⟨j,d.2,by rw [d.1];exact e.last.2.2.2⟩
 ·exact .inr (.inr h)
theorem bF.drop (D:c6 ms V W ws)(F:iH ms V W ws.length ws)(e:bF ms V W ws v a G (ps++[(j,w,s)]))(z:az ms ws j w s=0):bF ms V W ws v a G ps:=by
 obtain ⟨l1,l2,l3,l4⟩:=e.last;have es:=e.sum;rw [D.eq l1 l2 l3,z,F.zero j l1 w l2] at es;refine ⟨λx hx=>e.p x (zT _ hx),e.g,by omega,λk x hx=>?_⟩;rcases e.bits k x hx with h | h | h
 ·exact .inl h
 ·rw [z,z6] at h;cases h
 ·exact .inr h
theorem bF.go (D:c6 ms V W ws)(e:bF ms V W ws v a G (ps++[(j,w,s)]))(lt:j < ms.length)(z:V j w (az ms ws j w s)=V (j + 1) w (az ms ws j w s)):bF ms V W ws v a G (ps++[(j + 1,w,az ms ws j w s)]):=by
 obtain ⟨l1,l2,l3,l4⟩:=e.last;have es:=e.sum;rw [D.eq l1 l2 l3,z] at es;have os:=(wK (ms:=ms) (j:=j) (w:=w) l3).lt l3;refine ⟨λx hx=>?_,e.g,?_,λk x hx=>?_⟩
 ·rcases zQ.mp hx with m | m
  ·exact e.p x (zT _ m)
  ·cases zN.mp m;exact ⟨lt,l2,os,.keep l4⟩
 ·rw [zF,yt];simp only [za,yU,List.sum_cons,List.sum_nil];omega
 ·rcases e.bits k x hx with ⟨y,hy,h⟩ | h | h
  ·exact .inl ⟨y,zT _ hy,h⟩
  ·exact .inl ⟨_,zE _ (.head _),h⟩
  ·exact .inr h
theorem bF.give (D:c6 ms V W ws)(gd:Good W ms)(e:bF ms V W ws v a G (ps++[(j,w,s)])){o p:Nat}{t:Int}(l:cI ms j w o t)(sp:bD p (az ms ws j w s))(z:V j w (az ms ws j w s)=1 + V (j + 1) w p + V (j + 1) o (az ms ws j w s - p)):bF ms V W ws v a (G++[(j,w)]) (ps++[(j + 1,w,p)]++[(j + 1,o,az ms ws j w s - p)]):=by
 obtain ⟨l1,l2,l3,l4⟩:=e.last;have es:=e.sum;rw [D.eq l1 l2 l3,z] at es;have lt:j < ms.length:=by obtain ⟨m',hm,_⟩:=l;exact (zC.mp hm).1
 have os:=(wK (ms:=ms) (j:=j) (w:=w) l3).lt l3;have up:∀ x∈G,x∈G++[(j,w)]:=λx hx=>zT _ hx;have hj:=l4.mono up;refine ⟨λx hx=>?_,λx hx=>?_,?_,λk x hx=>?_⟩
 ·rcases zQ.mp hx with m | m
  ·rcases zQ.mp m with m | m
   ·have:=e.p x (zT _ m);exact ⟨this.1,this.2.1,this.2.2.1,this.2.2.2.mono up⟩
   ·cases zN.mp m;exact ⟨lt,l2,sp.lt os,.keep hj⟩
  ·cases zN.mp m;exact ⟨lt,(l.inside gd).2.1,zx (Nat.sub_le _ _) os,.give hj (zE _ (.head _)) l⟩
 ·rcases zQ.mp hx with m | m
  ·exact e.g x m
  ·cases zN.mp m;exact ⟨lt,l2⟩
 ·rw [zF,zF,yt,yt,zO];simp only [za,yU,List.sum_cons,List.sum_nil,zZ,yI]
  push_cast
  omega
 ·rcases e.bits k x hx with ⟨y,hy,h⟩ | h | ⟨i,h1,h2⟩
  ·exact .inl ⟨y,zT _ (zT _ hy),h⟩
  ·cases b:p.testBit k with
   | true=>exact .inl ⟨_,zT _ (zE _ (.head _)),b⟩
   | false=>
    refine .inl ⟨_,zE _ (.head _),?_⟩;show (az ms ws j w s - p).testBit k=true;rw [(iR sp).2.2,h,b];rfl
  ·exact .inr ⟨i,h1,h2.mono up⟩
theorem bF.LG (D:c6 ms V W ws)(gd:Good W ms)(e:bF ms V W ws v a G (ps++[(j,w,s)]))(C:V (cnt ms a) v (2 ^ ws.length - 1)<=ms.length)(z:az ms ws j w s≠0):j < ms.length:=by
 obtain ⟨l1,l2,l3,l4⟩:=e.last;have es:=e.sum;have nn:=e.jd D gd;by_cases q:j=ms.length
 ·exfalso;obtain ⟨F,hF,_,l⟩:=D.row l1 l2 l3;rcases l with ⟨z',_⟩ | ⟨_,l⟩
  ·exact z z'
  ·cases F with
   | some H=>have:=(hF H rfl).1;omega
   | none=>simp only at l;omega
 ·omega
end
end Sm
namespace L2
open PySem PySem.Spec PyProof.Rows PySem.W aU
section
variable {X:Cx}{aa:List (Addr×Obj)}{σ:St} {H0:Hp}{A:Around}{R:Result->Shared->Prop}{l S Ia:Addr}{fa:Addr}{ps:List (Addr×List Int)}{kf:List Int->Int}
theorem gQ.to {H H':Hp}{b:Addr}(h:gQ X aa H b)(n:H' b=none):gQ X aa H' b:=⟨n,h.2⟩
theorem uq (hh:A.in1.handled=none)(hl:H0 l=some (.lst (ps.map λa=>V.ref a.1)))(Ow:S≠Ia)(hz:ps.length<=sizeLine)
  (turn:∀ (dJ:List (Addr×Obj)) (a:Addr) (r:List Int) (s':Shared) (H':Hp),(∀ p∈aa,p∈dJ)->(a,r)∈ps->Inv X dJ σ H' s'->(∀ b u,H0 b=some u->H' b=some u) ->
   wpAny (model X.prog X.w) A.in1 (call (.ref fa) [.ref a]) (EP X dJ σ λv O8=>v=.int (kf r)/\aA H' O8) (λ_ _=>False) s')
  (q:∀ a s' H',a∈ps->(∀ b∈ps,kf a.2<=kf b.2)->Inv X aa σ H' s'->(∀ b u,H0 b=some u->H' b=some u)->R (.ok (.ret (.ref a.1))) s') :
  ∀ (r j i:Nat) (s:Shared) (H:Hp) (a:Addr×List Int) (tb:Tok) (c:Nat),ps.length - (j + 1)=r->j + 1<=ps.length->Inv X aa σ H s->(∀ b u,H0 b=some u->H b=some u)->gQ X aa H S->gQ X aa H Ia ->
   s.heap.get? S=some (seqObj "list" #[.ref a.1,.int (kf a.2) tb] c)->s.heap.IsListIter Ia l (j + 1)->ps[i]?=some a->i<=j->(∀ j' b,j'<=j->ps[j']?=some b->kf a.2<=kf b.2) ->
   codeAny (model X.prog X.w) A (.builtin "min.loop" ⟨[.ref Ia,.ref fa,.ref S],[]⟩) R s:=by
 have o9:(toString "min" ++ toString ".loop" : String) = "min.loop" := by decide
 intro r;induction r with
 | zero=>
  intro j i s H a tb c hr hj I ext fS fI hS hit ha pA best;have Xl:j + 1=ps.length:=by omega
  obtain ⟨au,rv,p,_⟩:=I.list (aJ.of (ext _ _ hl));have li:=rv.length;rw [zA] at li;refine codeAny_builtin PySem.F.entry_min_loop ?_;rw [Around.under_plainId yE _];show wpAny _ A.in1 (seqItems? (.ref S) >>= _) _ _ _;refine wpAny_bind (wpAny_seqItems hS rfl ?_);show wpAny _ A.in1 (tryCatch (pyNext (.ref Ia)) _ >>= _) _ _ _;refine wpAny_bind (wpAny_tryCatch (wpAny_pyNext_list_end hh hit p.isList (by simp;omega) λh' eb=>?_));have I1:Inv X aa σ H { s with heap:=h' }:=I.turned (t':=s.toks) (λb o hb e=>eb b o hb e) fI.1 fI.2.1 fI.2.2.2.1 fI.2.2.2.2.1 fI.2.2.2.2.2;have Ox:=eb S _ Ow hS;show wpAny _ A.in1 (updateSeq S (λ_=>#[]) >>= _) _ _ _;refine wpAny_bind ?_;refine wpAny_updateSeq Ox rfl (wpAny_bind (wpAny_letGo (wpAny_pure ?_)));have I2:Inv X aa σ H { s with heap:=h'.update S (Obj.mapSeq λ_=>(#[]:Array Value)) }:=I1.turned (t':=s.toks) (λb o hb e=>(Heap.get?_update_other _ _ (Ne.symm hb)).trans e) fS.1 fS.2.1 fS.2.2.2.1 fS.2.2.2.2.1 fS.2.2.2.2.2;refine q a _ H (zD ha) (λb hb=>?_) I2 ext;obtain ⟨j',kR⟩:=yS.mp hb;exact best j' b (by have:=(zC.mp kR).1;omega) kR
 | succ r ih=>
  intro j i s H a tb c hr hj I ext fS fI hS hit ha pA best;have cY:j + 1 < ps.length:=by omega
  obtain ⟨a',Rf⟩:∃ a',ps[j + 1]?=some a':=⟨_,zI cY⟩;obtain ⟨au,rv,p,_⟩:=I.list (aJ.of (ext _ _ hl));obtain ⟨u,hu,ru⟩:=rv.get (i:=j + 1) (by rw [zG,Rf];rfl);cases ru;refine codeAny_builtin PySem.F.entry_min_loop ?_;rw [Around.under_plainId yE _];show wpAny _ A.in1 (seqItems? (.ref S) >>= _) _ _ _;refine wpAny_bind (wpAny_seqItems hS rfl ?_);show wpAny _ A.in1 (tryCatch (pyNext (.ref Ia)) _ >>= _) _ _ _;refine wpAny_bind (wpAny_tryCatch (wpAny_pyNext_list_item hit p.isList (x:=.ref a'.1) (by simpa using hu) λh' mQ sb=>?_));have I1:Inv X aa σ H { s with heap:=h' }:=I.turned (t':=s.toks) (λb o hb e=>(sb.2 b hb).trans e) fI.1 fI.2.1 fI.2.2.2.1 fI.2.2.2.2.1 fI.2.2.2.2.2;have Ox:=(sb.2 S Ow).trans hS;obtain ⟨oI,Vk,Of,Pu⟩:=id mQ;have I2:Inv X ((S,seqObj "list" #[.ref a.1,.int (kf a.2) tb] c)::(Ia,oI)::aa) σ H { s with heap:=h' }:=I1.bO λx hx=>by
   rcases zP.mp hx with rfl | hx
   ·exact ⟨Ox,fS.1,fS.2.1,fS.2.2.1,by intro v z;cases z⟩
   ·rcases zP.mp hx with rfl | hx
    ·exact ⟨Vk,fI.1,fI.2.1,fI.2.2.1,by intro v z;rw [Pu] at z;cases z⟩
    ·exact I1.pin x (zE _ hx)
  show wpAny _ A.in1 (tryCatch (holding [.ref a'.1] (call (.ref fa) [.ref a'.1])) _ >>= _) _ _ _;refine wpAny_bind (wpAny_tryCatch (wpAny_holding (wpAny_mono (turn _ a'.1 a'.2 _ H (λx hx=>.tail _ (.tail _ hx)) (zD Rf) I2 ext) (λx lR he=>?_) λ_ _ hF=>hF.elim)));obtain ⟨v',H2,J2,Ur,rfl,sm⟩:=he;obtain ⟨t2,rfl⟩:=Ur;have pS:=J2.pin (S,seqObj "list" #[.ref a.1,.int (kf a.2) tb] c) (zE _ (.head _));have pI:=J2.pin (Ia,oI) (zE _ (.tail _ (.head _)));have J3:Inv X aa σ H2 lR:=J2.bO λx hx=>J2.pin x (zE _ (.tail _ (.tail _ hx)));have sH:=fS.to (H':=H2) pS.2.1;have Ss:=fI.to (H':=H2) pI.2.1;have ext2:∀ b u,H0 b=some u->H2 b=some u:=λb u e=>sm _ _ (ext b u e);have Vx:lR.heap.IsListIter Ia l (j + 1 + 1):=⟨oI,pI.1,Of,Pu⟩;show wpAny _ A.in1 (tryCatch (holding [.ref a'.1,.int (kf a'.2) t2] (richCompare .Lt (.int (kf a'.2) t2) (.int (kf a.2) tb) >>= _)) _ >>= _) _ _ _;refine wpAny_bind (wpAny_tryCatch (wpAny_holding (wpAny_bind (CmpOf.ints_lt (prog:=X.prog) (w:=X.w) (A:=A.in1) (P:=λi v=>∃ t,v=.int ((λn=>if n=0 then kf a'.2 else kf a.2) i) t) (λn=>if n=0 then kf a'.2 else kf a.2) (λi v h=>h) 0 1 _ _ _ _ _ ⟨t2,rfl⟩ ⟨tb,rfl⟩ ?_))));refine wpAny_bind (wpAny_holding (wpAny_truthy_bool ?_));refine wpAny_bind (wpAny_letGo (wpAny_pure ?_));by_cases iJ:kf a'.2 < kf a.2
  ·have s1:=Heap.SameBut.update lR.heap S (Obj.mapSeq λ_=>#[.ref a'.1,.int (kf a'.2) t2]);obtain ⟨c2,Py⟩:∃ c2,(lR.heap.update S (Obj.mapSeq λ_=>#[.ref a'.1,.int (kf a'.2) t2])).get? S=some (seqObj "list" #[.ref a'.1,.int (kf a'.2) t2] c2):=⟨_,get?_update_seq pS.1 λ_=>#[.ref a'.1,.int (kf a'.2) t2]⟩;have hd:decide ((if (0:Nat)=0 then kf a'.2 else kf a.2) < (if (1:Nat)=0 then kf a'.2 else kf a.2))=true:=decide_eq_true (by simpa using iJ);simp only [if_true,Nat.one_ne_zero,if_false,iJ,decide_true];refine wpAny_bind ?_;refine wpAny_updateSeq pS.1 rfl (wpAny_bind (wpAny_letGo ?_));rw [o9];have J4:Inv X aa σ H2 { lR with heap:=lR.heap.update S (Obj.mapSeq λ_=>#[.ref a'.1,.int (kf a'.2) t2]) }:=J3.turned (t':=lR.toks) (λb o hb e=>(Heap.get?_update_other _ _ (Ne.symm hb)).trans e) sH.1 sH.2.1 sH.2.2.2.1 sH.2.2.2.2.1 sH.2.2.2.2.2;refine wpAny_pure ⟨plainId_quiet yE _,ih (j + 1) (j + 1) _ H2 a' t2 c2 (by omega) cY J4 ext2 sH Ss Py ⟨oI,(s1.2 Ia Ow.symm).trans pI.1,Of,Pu⟩ Rf (zB _) λj' b kR hb=>?_⟩;by_cases e:j'=j + 1
   ·subst e;rw [Rf] at hb;cases hb;exact zq _
   ·have:=best j' b (by omega) hb;omega
  ·have hd:decide ((if (0:Nat)=0 then kf a'.2 else kf a.2) < (if (1:Nat)=0 then kf a'.2 else kf a.2))=false:=decide_eq_false (by simpa using iJ);simp only [if_true,Nat.one_ne_zero,if_false,iJ,decide_false,ze];refine wpAny_bind (wpAny_letGo ?_);rw [o9];refine wpAny_pure ⟨plainId_quiet yE _,ih (j + 1) i _ H2 a tb c (by omega) cY J3 ext2 sH Ss pS.1 Vx ha (by omega) λj' b kR hb=>?_⟩;by_cases e:j'=j + 1
   ·subst e;rw [Rf] at hb;cases hb;omega
   ·exact best j' b (by omega) hb
theorem ur {E:Value->Shared->Prop}{Q:Value->Shared->Prop}{s:Shared}(hh:A.in1.handled=none)(I:Inv X aa σ H0 s)(hl:H0 l=some (.lst (ps.map λa=>V.ref a.1)))(p9:0 < ps.length)(hz:ps.length<=sizeLine)
  (turn:∀ (dJ:List (Addr×Obj)) (a:Addr) (r:List Int) (s':Shared) (H':Hp),(∀ p∈aa,p∈dJ)->(a,r)∈ps->Inv X dJ σ H' s'->(∀ b u,H0 b=some u->H' b=some u) ->
   wpAny (model X.prog X.w) A.in1 (call (.ref fa) [.ref a]) (EP X dJ σ λv O8=>v=.int (kf r)/\aA H' O8) (λ_ _=>False) s')
  (q:∀ a s' H',a∈ps->(∀ b∈ps,kf a.2<=kf b.2)->Inv X aa σ H' s'->(∀ b u,H0 b=some u->H' b=some u)->Q (.ref a.1) s') :
  wpAny (model X.prog X.w) A (call (.builtin "min") [.ref l] [(Str.ofString "key", .ref fa)]) Q E s:=by
 have o9:(toString "min" ++ toString ".loop" : String) = "min.loop" := by decide
 obtain ⟨au,rv,p,_⟩:=I.list (aJ.of hl);obtain ⟨a0,Rc⟩:∃ a,ps[0]?=some a:=⟨_,zI p9⟩;obtain ⟨u,hu,ru⟩:=rv.get (i:=0) (by rw [zG,Rc];rfl);cases ru;have li:=rv.length;rw [zA] at li;refine kmk_tree PySem.F.kind_min PySem.F.plain_min PySem.F.entry_min (kmk_min_key _ _) ?_;show wpAny _ A.in1 (Builtin.Builtins.bindParams "min" ["key", "default"] 0 ⟨[],[(Str.ofString "key", .ref fa)]⟩ >>= _) _ _ s;refine wpAny_bind (wpAny_of_eq (show Builtin.Builtins.bindParams "min" ["key", "default"] 0 ⟨[],[(Str.ofString "key", .ref fa)]⟩=pure [some (.ref fa),none] from rfl) ?_);refine wpAny_bind (wpAny_pure ?_);refine wpAny_bind (wpAny_pyIter_list p.isList ?_);refine wpAny_bind (wpAny_newList ?_ (zY _));rw [o9];have hS:(s.heap.push { cls:=.type "list_iterator", data:=.fields #[.ref l,.int 0 0] }).objs.size=s.heap.objs.size + 1:=size_push' ..;refine wpAny_pure ⟨plainId_quiet yE _,?_⟩;have gI:((s.heap.push { cls:=.type "list_iterator", data:=.fields #[.ref l,.int 0 0] }).push (seqObj "list" #[] 0)).get? s.heap.objs.size=some { cls:=.type "list_iterator", data:=.fields #[.ref l,.int 0 0] }:=
  Heap.get?_push_of_some _ (Heap.get?_push_size _ rfl)
 have gS:=Heap.get?_push_size (s.heap.push { cls:=.type "list_iterator", data:=.fields #[.ref l,.int 0 0] }) (o:=seqObj "list" #[] 0) rfl;have fI:=I.nj (b:=s.heap.objs.size) (zB _) I.fresh;have fS:=I.nj (b:=(s.heap.push { cls:=.type "list_iterator", data:=.fields #[.ref l,.int 0 0] }).objs.size) (by rw [hS];exact z8 _) (I.br.fresh (by rw [hS];exact z8 _));have Ow:(s.heap.push { cls:=.type "list_iterator", data:=.fields #[.ref l,.int 0 0] }).objs.size≠s.heap.objs.size:=by rw [hS];exact yT (xA _)
 have I0:∀ t',Inv X aa σ H0 { s with heap:=(s.heap.push { cls:=.type "list_iterator", data:=.fields #[.ref l,.int 0 0] }).push (seqObj "list" #[] 0),toks:=t' }:=λt'=>I.kept (t':=t') λb o e=>Heap.get?_push_of_some _ (Heap.get?_push_of_some _ e);generalize (s.heap.push { cls:=.type "list_iterator", data:=.fields #[.ref l,.int 0 0] }).objs.size=S at *;generalize (s.heap.push { cls:=.type "list_iterator", data:=.fields #[.ref l,.int 0 0] }).push (seqObj "list" #[] 0)=h1 at *;generalize s.heap.objs.size=Ia at *;refine codeAny_builtin PySem.F.entry_min_loop ?_;rw [Around.under_plainId yE _];show wpAny _ A.in1 (seqItems? (.ref S) >>= _) _ _ _;refine wpAny_bind (wpAny_seqItems gS rfl ?_);show wpAny _ A.in1 (tryCatch (pyNext (.ref Ia)) _ >>= _) _ _ _;have Z4:h1.IsListIter Ia l 0:=⟨_,gI,rfl,rfl⟩;obtain ⟨its',YA,p',_⟩:=(I0 s.toks).list (aJ.of hl);obtain ⟨u',Zx,vR⟩:=YA.get (i:=0) (by rw [zG,Rc];rfl);cases vR;refine wpAny_bind (wpAny_tryCatch (wpAny_pyNext_list_item Z4 p'.isList (x:=.ref a0.1) (by simpa using Zx) λh' mQ sb=>?_));have I1:∀ t',Inv X aa σ H0 { s with heap:=h',toks:=t' }:=λt'=>(I0 s.toks).turned (t':=t') (λb o hb e=>(sb.2 b hb).trans e) fI.1 fI.2.1 fI.2.2.2.1 fI.2.2.2.2.1 fI.2.2.2.2.2;have Ox:=(sb.2 S Ow).trans gS;obtain ⟨oI,Vk,Of,Pu⟩:=id mQ;have I2:∀ t',Inv X ((S,seqObj "list" #[] 0)::(Ia,oI)::aa) σ H0 { s with heap:=h',toks:=t' }:=λt'=>(I1 t').bO λx hx=>by
  rcases zP.mp hx with rfl | hx
  ·exact ⟨Ox,fS.1,fS.2.1,fS.2.2.1,by intro v z;cases z⟩
  ·rcases zP.mp hx with rfl | hx
   ·exact ⟨Vk,fI.1,fI.2.1,fI.2.2.1,by intro v z;rw [Pu] at z;cases z⟩
   ·exact (I1 t').pin x (zE _ hx)
 show wpAny _ A.in1 (tryCatch (holding [.ref a0.1] (call (.ref fa) [.ref a0.1])) _ >>= _) _ _ _;refine wpAny_bind (wpAny_tryCatch (wpAny_holding (wpAny_mono (turn _ a0.1 a0.2 _ H0 (λx hx=>.tail _ (.tail _ hx)) (zD Rc) (I2 _) λb u e=>e) (λx lR he=>?_) λ_ _ hF=>hF.elim)));obtain ⟨v',H2,J2,Ur,rfl,sm⟩:=he;obtain ⟨t2,rfl⟩:=Ur;have pS:=J2.pin (S,seqObj "list" #[] 0) (zE _ (.head _));have pI:=J2.pin (Ia,oI) (zE _ (.tail _ (.head _)));have J3:Inv X aa σ H2 lR:=J2.bO λx hx=>J2.pin x (zE _ (.tail _ (.tail _ hx)));have sH:=fS.to (H':=H2) pS.2.1;have Ss:=fI.to (H':=H2) pI.2.1;have s1:=Heap.SameBut.update lR.heap S (Obj.mapSeq λ_=>#[.ref a0.1,.int (kf a0.2) t2]);obtain ⟨c2,Py⟩:∃ c2,(lR.heap.update S (Obj.mapSeq λ_=>#[.ref a0.1,.int (kf a0.2) t2])).get? S=some (seqObj "list" #[.ref a0.1,.int (kf a0.2) t2] c2):=⟨_,get?_update_seq pS.1 λ_=>#[.ref a0.1,.int (kf a0.2) t2]⟩;show wpAny _ A.in1 (updateSeq S (λ_=>#[.ref a0.1,.int (kf a0.2) t2]) >>= _) _ _ _;refine wpAny_bind ?_;refine wpAny_updateSeq pS.1 rfl ?_;rw [o9];have J4:Inv X aa σ H2 { lR with heap:=lR.heap.update S (Obj.mapSeq λ_=>#[.ref a0.1,.int (kf a0.2) t2]) }:=J3.turned (t':=lR.toks) (λb o hb e=>(Heap.get?_update_other _ _ (Ne.symm hb)).trans e) sH.1 sH.2.1 sH.2.2.2.1 sH.2.2.2.2.1 sH.2.2.2.2.2;refine wpAny_pure ⟨plainId_quiet yE _,uq hh hl Ow hz turn q _ 0 0 _ H2 a0 t2 c2 rfl p9 J4 (λb u e=>sm _ _ e) sH Ss Py ⟨oI,(s1.2 Ia Ow.symm).trans pI.1,Of,Pu⟩ Rc (zB _) λj' b kR hb=>?_⟩;have e:j'=0:=by omega
 subst e;rw [Rc] at hb;cases hb;exact zq _
end
structure iG (ps:List Str) (caps:List Nat) (N:List Str) (sc scope:Scope):Prop where
 kind:scope.kind=.function
 co:scope.isCoroutine=false
 gen:scope.isGenerator=false
 gJ:∀ y∈scope.names,y.2≠.cell
 par:∀ x∈ps,scope.names.lookup x=some .local
 fr:∀ y∈scope.names,y.2=.free->sc.names.lookup y.1=some .cell\/sc.names.lookup y.1=some .free
 V2:∀ i∈caps,i < N.length/\scope.names.lookup ((N[i]?).getD Str.empty)=some .free
 nd:ps.Nodup
def rF (X:Cx)(qual:Str)(scope:Scope)(L f:Addr)(cd:Value):Env:={ scope:=scope,locals:=L,globals:=mainGlobals,cells:=cZ scope.names X.env [],qual:=qual ++ ".<locals>.", func:=some f,code:=cd,frame:=some L,builtins:=builtinsNs }
def Ks (X:Cx)(ps:List Str)(caps:List Nat)(qual:Str)(scope:Scope)(f:Addr)(cd:Value)(A:Around)(s:Shared)(H:Hp):Cx:=
 { X with A:=A.deeper (rF X qual scope s.heap.objs.size f cd),N:=ps++caps.map (λi=>(X.N[i]?).getD Str.empty),cL:=s,uW:=H,env:=rF X qual scope s.heap.objs.size f cd,outer:=X.stack,stack:=rF X qual scope s.heap.objs.size f cd::X.stack,ex:=[],fn:=λ_=>false,calm:=true,pn:=[],xe:=λ_ _=>False }
def gB (vs:List V)(caps:List Nat)(σ:St):St:=vs.map some++caps.map λi=>(σ[i]?).join
theorem nY {x:Str}{u:Value}:∀ {ps:List Str}{us:List Value}{i:Nat},ps.Nodup->ps[i]?=some x->us[i]?=some u->(ps.zip us).reverse.lookup x=some u
 | [],_,i,_,h,_=>by simp at h
 | p::ps,[],i,_,_,h=>by simp at h
 | p::ps,v::us,0,nd,h,h'=>by
  obtain rfl:p=x:=Option.some.inj h;obtain rfl:v=u:=Option.some.inj h';rw [List.zip_cons_cons,yw,List.lookup_append];have:(ps.zip us).reverse.lookup p=none:=by
   rw [List.lookup_eq_none_iff];rintro ⟨a,b⟩ hb;have:=(xF (yF.mp hb)).1;have ne:a≠p:=λe=>(yf.mp nd).1 (by rw [<-e];exact this);simpa using Ne.symm ne
  rw [this];simp
 | p::ps,v::us,i + 1,nd,h,h'=>by
  rw [List.zip_cons_cons,yw,List.lookup_append,nY (yf.mp nd).2 h h'];rfl
section
variable {X:Cx}{aa:List (Addr×Obj)}{σ:St}{H:Hp}{s:Shared}
theorem LQ {ps:List Str}{caps:List Nat}{qual:Str}{scope:Scope}{f:Addr}{cd:Value}{A:Around}{us:List Value}{vs:List V}{h1:Heap}{tk:Nat}(I:Inv X aa σ H s)(S:iG ps caps X.N X.env.scope scope)
  (hh:A.handled=none) (hf:A.frames=some X.stack) (hl:vs.length=ps.length) (r:Vals vs us)
  (L3:h1.Ns s.heap.objs.size λx=>(ps.zip us).reverse.lookup x) (u7:Heap.SameBut s.heap.objs.size (s.heap.push { cls:=.type "frame", data:=.dict #[] }) h1) :
  Inv (Ks X ps caps qual scope f cd A s H) [] (gB vs caps σ) H { s with heap:=h1,toks:=tk }:=by
 have keep:∀ b o,s.heap.get? b=some o->h1.get? b=some o:=λb o e=>(u7.2 b (zU (Heap.lt_size e))).trans (Heap.get?_push_of_some _ e);refine ⟨⟨I.ok.mod,S.kind,rfl,rfl,zB _,λx y c h1 h2=>I.ok.inj x y c (xw h1) (xw h2),λx hx=>?_,λx c z _=>absurd (show false=true from z) zK,λ_=>hh,Around.frames_deeper hf,.inr ⟨rfl,rfl⟩,
   λb hb=>absurd (show b∈([]:List Addr) from hb) (by simp),I.bs,zu I.ok.Ky I.sz,λb _ _ z=>absurd (show b∈([]:List Addr) from z) (by simp),λb hb=>absurd (show b∈([]:List Addr) from hb) (by simp),I.stack,I.mP⟩,
  rfl,I.bare,Un.kept keep,⟨_,L3,λi x v e1 e2 e3=>?_⟩,λx c e=>?_,I.br.fresh (zB _),λx c e=>I.fK x c (xw e),λp hp=>absurd (show p∈([]:List (Addr×Obj)) from hp) (by simp),I.br.kept keep,?_⟩
 ·have hx:scope.names.lookup x=some .cell\/scope.names.lookup x=some .free:=hx;rcases hx with hx | hx
  ·exact absurd rfl (S.gJ _ (zn hx))
  ·have hm:=zn hx;obtain ⟨c,hc⟩:=I.ok.has x (S.fr _ hm rfl);exact ⟨c,fV hm hc⟩
 ·have sI:(vs.map some++caps.map λi=>(σ[i]?).join)[i]?=some (some v):=e2;have sJ:(ps++caps.map (λi=>(X.N[i]?).getD Str.empty))[i]?=some x:=e1;by_cases hi:i < ps.length
  ·rw [zf (by simpa [hl] using hi),zG] at sI;rw [zf hi] at sJ;have hv:vs[i]?=some v:=by
    cases q:vs[i]? with
    | none=>rw [q] at sI;cases sI
    | some y=>rw [q] at sI;cases sI;rfl
   obtain ⟨u,hu,ru⟩:=r.get hv;have kx:=S.par x (zD sJ);exact ⟨u,ru,.inl ⟨kx,nY S.nd sJ hu⟩⟩
  ·have hi:ps.length<=i:=Nat.le_of_not_lt hi;rw [zW (by simpa [hl] using hi),zA,hl,zG] at sI;rw [zW hi,zG] at sJ;cases ek:caps[i - ps.length]? with
   | none=>rw [ek] at sJ;cases sJ
   | some k=>
    rw [ek] at sJ sI;have ex:(X.N[k]?).getD Str.empty=x:=Option.some.inj sJ;have ev:(σ[k]?).join=some v:=Option.some.inj sI;have VY:σ[k]?=some (some v):=by
     cases q:σ[k]? with
     | none=>rw [q] at ev;cases ev
     | some y=>rw [q] at ev;exact congrArg some ev
    obtain ⟨Om,VD⟩:=S.V2 k (zD ek);have eN:X.N[k]?=some x:=by
     rw [zI Om] at ex ⊢;exact congrArg some ex
    rw [ex] at VD;have hm:=zn VD;have Q5:=S.fr _ hm rfl;obtain ⟨m,_,J1⟩:=I.loc;obtain ⟨u,ru,lk⟩:=J1 k x v eN VY (.inr Q5);refine ⟨u,ru,.inr ⟨.inr VD,?_⟩⟩;rcases lk with ⟨kl,_⟩ | ⟨_,c,hc,ob,JY,hd⟩
    ·have LO:X.env.scope.names.lookup x=some .local:=kl;rcases Q5 with z | z
     ·have z':X.env.scope.names.lookup x=some .cell:=z;rw [z'] at LO;cases LO
     ·have z':X.env.scope.names.lookup x=some .free:=z;rw [z'] at LO;cases LO
    ·exact ⟨c,fV hm hc,ob,keep c ob JY,hd⟩
 ·obtain ⟨v,ob,JY,hd⟩:=I.cell x c (xw e);exact ⟨v,ob,keep c ob JY,hd⟩
 ·show (gB vs caps σ).length=(ps++caps.map (λi=>(X.N[i]?).getD Str.empty)).length;simp [gB,hl]
theorem JQ {c' f:Addr}{k:Nat}{name qual:Str}{params:Arguments}{body:Expr}{scope:Scope}{pm nC:Value}{ps:List Str}{caps:List Nat}{A:Around}{us:List Value}{vs:List V}{Q:VK}(I:Inv X aa σ H s)(S:iG ps caps X.N X.env.scope scope)(hr:cX (k + 1) A)
  (hf:A.frames=some X.stack) (ho:s.heap.get? f=some (kla_obj name qual params body scope (cZ scope.names X.env []) pm c' nC)) (pB:s.heap.CodeRec (.ref c') qual) (hb:bindArgs (kla_fn name qual params body scope (cZ scope.names X.env []) pm (.ref c') nC) ⟨us,[]⟩=pure (ps.zip us)) (hl:vs.length=ps.length) (r:Vals vs us)
  (ir:∃ t,PE (Ks X ps caps qual scope f (.ref c') A s H).JC body t/\t (gB vs caps σ) H Q) :
  wpAny (model X.prog X.w) A (call (.ref f) us) (EP X aa σ Q) (λ_ _=>False) s:=by
 have lim:s.heap.NoLimit:=I.nolimit;have J1:∀ y∈ps.zip us,scope.names.lookup y.1=some .local:=λ⟨n,v⟩ hy=>S.par n (xF hy).1;refine wpAny_call (codeAny_mono (R:=λr s'=>match r with | .ok (.ret u)=>EP X aa σ Q u s' | _=>False) (kla_callFunE hr.depth ho rfl S.co S.gen rfl pB ?_) λr s3 QS=>?_)
 ·rw [hb];refine wpAny_pure ?_;refine PySem.wpAny_newFunctionEnv S.gJ J1 (λh1 L3 u7=>?_) S.kind;have keep:∀ b o,s.heap.get? b=some o->h1.get? b=some o:=λb o e=>(u7.2 b (zU (Heap.lt_size e))).trans (Heap.get?_push_of_some _ e);refine ⟨lim.keeps keep,kla_codeExpr ?_⟩;obtain ⟨t,ht,hq⟩:=ir;have J:=LQ (qual:=qual) (f:=f) (cd:=.ref c') (A:=A) (tk:=s.toks + (ps.zip us).length) I S hr.hd hf hl r L3 u7;refine wpAny_mono (ht.JC [] _ (gB vs caps σ) H _ J hq) (λu s' hs=>?_) λe s' hs=>hs.elim;obtain ⟨v,H',J',rv,q⟩:=hs;exact I.after ⟨v,H',J'.os,J'.bare,J'.base,J'.br,rv,q⟩
 ·cases r with
  | error e=>exact QS.elim
  | ok fl=>
   cases fl with
   | ret u=>exact QS
   | next=>exact False.elim QS
   | brk=>exact False.elim QS
   | cont=>exact False.elim QS
end
end L2
namespace L2
open PySem PySem.Spec PyProof.Rows PySem.W aU PySem.Calls
def PV (P:Addr)(oX:Pos)(qual:Str)(caps:List Nat)(te tb:TE):TE:=fun σ H Q=>te σ H λx H1=>∃ l,∃ ps:List (Addr×List Int),∃ kf:List Int->Int,[x]=[V.ref l]/\H1 l=some (.lst (ps.map λa=>V.ref a.1))/\0 < ps.length/\MT P oX qual H1/\(∀ a∈ps,H1 a.1=some (.tup (a.2.map V.int))) /\
 (∀ a∈ps,∀ H',Sm.bV P H1 H'->tb (gB [V.ref a.1] caps σ) H' λv O8=>v=.int (kf a.2)/\aA H' O8) /\
 ∀ a H2,a∈ps->(∀ b∈ps,kf a.2<=kf b.2)->Sm.bV P H1 H2->MT P oX qual H2->Q (.ref a.1) H2
section
variable {X:Cx}{e body:Expr}{te tb:TE}{np kp oX pos:Pos}{params:Arguments}{scope:Scope}{P c:Addr}{caps:List Nat}{pn:Str}
theorem ug (Q9:X.calm=true)(hg:Gl X "min")(hm:X.mg "min" = none)(sC:X.env.code=.ref c)(pB:codeHdIn X.K c P=true)(bm:aW X.mg X.base)(Ot:defaultsOf params X.env=([],[]))(hr:cX 3 X.A)
  (S:iG [pn] caps X.N X.env.scope scope) (J6:∀ kF pm c' nC u,bindArgs (kla_fn "<lambda>" (X.env.qual ++ "<lambda>") params body scope kF pm (.ref c') nC) ⟨[u],[]⟩=pure (List.zip [pn] [u]))
  (ir:∀ f c' A s H,PE (Ks X [pn] caps (X.env.qual ++ "<lambda>") scope f (.ref c') A s H).JC body tb)
  (he:PE X e te) (ns:notStar e=true) :
  PE X (.Call (.Name "min" np) [e] [⟨some "key", .Lambda params body scope oX,kp⟩] pos) (PV P oX (X.env.qual ++ "<lambda>") caps te tb):=by
 intro aa s σ H Q I h;have ha:PA X [e] (jK te ql):=xK (xL he xU ns);have hh:X.A.handled=none:=I.ok.hd Q9;refine wpAny_Call_Name_kw (cG I hg hm yd ?_ (by decide) (by decide));refine callWith_kw (aX (ha pos aa s σ H (λvs H1=>∃ l,∃ ps:List (Addr×List Int),∃ kf:List Int->Int,vs=[V.ref l]/\H1 l=some (.lst (ps.map λa=>V.ref a.1))/\0 < ps.length/\MT P oX (X.env.qual ++ "<lambda>") H1/\(∀ a∈ps,H1 a.1=some (.tup (a.2.map V.int))) /\
  (∀ a∈ps,∀ H',Sm.bV P H1 H'->tb (gB [V.ref a.1] caps σ) H' λv O8=>v=.int (kf a.2)/\aA H' O8) /\
  ∀ a H2,a∈ps->(∀ b∈ps,kf a.2<=kf b.2)->Sm.bV P H1 H2->MT P oX (X.env.qual ++ "<lambda>") H2->Q (.ref a.1) H2) I h)
  λus s1 ⟨vs,H1,I1,r1,q1⟩=>kws_cons ?_) (by rw [iO ns];rfl) (by rw [iO ns];rfl)
 obtain ⟨l,ps,kf,rfl,hl,p9,mt,rows,hb,q⟩:=q1;obtain ⟨u,rfl,ru⟩:=vals1 r1;cases ru;have Sj:closureFor scope X.env=pure (cZ scope.names X.env []):=dF λy hy hf=>I1.ok.has y.1 (S.fr y hy hf);refine JR I1 mt sC pB bm Ot Sj λf c' nC pm H' s' J Ra bt YX=>kws_nil ?_;have YN:∀ b u,H1 b=some u->(∀ ys,u≠.jr ys)->b≠P:=λb u e n z=>by
  rcases mt with m | ⟨_,m,_⟩ <;> (rw [z,m] at e;cases e;exact n _ rfl)
 have Om:=bt _ _ (YN _ _ hl (by intro ys z;cases z)) hl;obtain ⟨hz,_⟩:=I1.qR hl;rw [zA] at hz;have Vl:(f,kla_obj "<lambda>" (X.env.qual ++ "<lambda>") params body scope (cZ scope.names X.env []) pm c' nC)∈(f,kla_obj "<lambda>" (X.env.qual ++ "<lambda>") params body scope (cZ scope.names X.env []) pm c' nC)::aa:=.head _;refine ur (kf:=kf) (by first | exact hh | simpa using hh) J Om p9 hz (λdJ a r s2 H2 sub ha J2 ext=>?_) λa s2 H2 ha best J2 ext=>?_
 ·have hf:=J2.pin _ (zE _ (sub _ Vl));have ZW:s2.heap.CodeRec (.ref c') (X.env.qual ++ "<lambda>"):=(J2.br c' _ (ext _ _ Ra)).1;exact JQ (k:=1) J2 S hr.in1 J2.Rl.in1.frames hf.1 ZW (J6 _ pm c' nC (.ref a)) (vs:=[V.ref a]) rfl (.cons rfl .nil) ⟨tb,ir f c' X.A.in1 s2 H2,hb (a,r) ha H2 λb u n e=>ext b u (bt b u n e)⟩
 ·refine ⟨.ref a.1,H2,J2.bO λp hp=>J2.pin p (zE _ (.tail _ hp)),rfl,q a H2 ha best (λb u n e=>ext b u (bt b u n e)) ?_⟩;rcases YX with m | ⟨c1,m,m2⟩
  ·exact .inl (ext _ _ m)
  ·exact .inr ⟨c1,ext _ _ m,ext _ _ m2⟩
end
end L2
namespace Sm
open PySem L2
def eB:Str:=(("best_split" : Str) ++ ".<locals>.") ++ "<lambda>"
def mR (K:PySem.W.Frag)(T:Addr)(lp:Pos):Sp:=λvs H Q _=>∃ (a:Addr) (ns:List Int),vs=[.ref a]/\aJ K H a (ns.map V.int)/\ns.length<=63/\MT T lp eB H/\∀ H',Q (.bl true) H'
theorem _root_.L2.MT.bP {P:Addr}{pos:Pos}{q:Str}{H H':Hp}(m:MT P pos q H)(s:aA H H'):MT P pos q H':=by
 rcases m with m | ⟨c,m,k⟩
 ·exact .inl (s _ _ m)
 ·exact .inr ⟨c,s _ _ m,s _ _ k⟩
theorem _root_.L2.MT.JH {P a:Addr}{pos:Pos}{q:Str}{H:Hp}{xs:List V}(m:MT P pos q H)(k:H a=some (.lst xs)):a≠P:=by rintro rfl;rcases m with m | ⟨c,m,_⟩ <;> (rw [k] at m;cases m)
theorem _root_.L2.MT.qO {P a:Addr}{pos:Pos}{q:Str}{H:Hp}{xs:List V}(m:MT P pos q H)(k:H a=some (.tup xs)):a≠P:=by rintro rfl;rcases m with m | ⟨c,m,_⟩ <;> (rw [k] at m;cases m)
abbrev wq (ws:List (Addr×Nat×Int)):Wq:=ws.map (·.2)
structure p8 (H:Hp) (b l:Addr) (af:List Int) (tr tm:Addr) (ps:List (Addr×M4)) (ws:List (Addr×Nat×Int)):Prop where
 bk:aL H b af tr tm ps
 gd:Good af.length (ps.map (·.2))
 r1:1<=af.length
 ud:af.length<=12
 wa:bS H l af.length ws
 w4:ws.length<=4
theorem p8.same {H H':Hp}{b l:Addr}{af:List Int}{tr tm:Addr}{ps:List (Addr×M4)}{ws:List (Addr×Nat×Int)}(h:p8 H b l af tr tm ps ws)(s:aA H H'):p8 H' b l af tr tm ps ws:=
 ⟨h.bk.same s,h.gd,h.r1,h.ud,h.wa.same s,h.w4⟩
def tQ:Sp:=λvs H Q _=>∃ b l,∃ j w s:Nat,∃ af tr tm ps ws,vs=[.ref b,.ref l,.int (j:Int),.int (w:Int),.int (s:Int)]/\p8 H b l af tr tm ps ws/\s < 2 ^ ws.length/\∀ H',aA H H'->Q (.int ((az (ps.map (·.2)) (wq ws) j w s:Nat):Int)) H'
def kQ (H:Hp)(v:V)(W sz:Nat)(F:Option (Nat->Nat->Int)):Prop:=(v=.bG/\F=none)\/∃ a,∃ A:List nP,v=.ref a/\H a=some (.lst (A.map λb=>V.ref b.1))/\A.length=W/\(∀ b∈A,H b.1=some (.lst (b.2.map V.int))/\b.2.length=sz)/\F=some λw s=>(((A.map (·.2)).getD w []).getD s 0)
theorem kQ.same {H H':Hp}{v:V}{W sz:Nat}{F:Option (Nat->Nat->Int)}(h:kQ H v W sz F)(s:aA H H'):kQ H' v W sz F:=by
 rcases h with h | ⟨a,A,e,k,l,r,f⟩
 ·exact .inl h
 ·exact .inr ⟨a,A,e,s _ _ k,l,λb hb=>⟨s _ _ (r b hb).1,(r b hb).2⟩,f⟩
def tW:Sp:=λvs H Q _=>∃ b,∃ j w s:Nat,∃ v af tr tm ps sz F,vs=[.ref b,.int (j:Int),.int (w:Int),.int (s:Int),v]/\aL H b af tr tm ps/\Good af.length (ps.map (·.2))/\af.length<=12/\w < af.length/\s < sz/\sz<=16/\kQ H v af.length sz F/\(∀ G,F=some G->j < ps.length) /\
 ∀ x H',aA H H'->dz (ps.map (·.2)) j F w s x->Q (.int x) H'
def Lh:Sp:=λvs H Q _=>∃ b l,∃ j w:Nat,∃ v af tr tm ps ws F,vs=[.ref b,.ref l,.int (j:Int),.int (w:Int),v]/\p8 H b l af tr tm ps ws/\w < af.length/\kQ H v af.length (2 ^ ws.length) F/\(∀ G,F=some G->j < ps.length) /\
 ∀ lr (r:List Int) H',aA H H'->H lr=none->H' lr=some (.lst (r.map V.int))->r.length=2 ^ ws.length->jb (ps.map (·.2)) (wq ws) j F w (λs=>r.getD s 0)->Q (.ref lr) H'
def qx:Sp:=λvs H Q _=>∃ b l af tr tm ps ws,vs=[.ref b,.ref l]/\p8 H b l af tr tm ps ws /\
 ∀ lp P H',aA H H'->H lp=none->(∀ a∈P,H a.1=none/\∀ b∈a.2,H b.1=none)->jy H' lp ps.length af.length (2 ^ ws.length) P->c6 (ps.map (·.2)) (cy (aO P)) af.length (wq ws)->Q (.ref lp) H'
def vP (T:Addr)(lp:Pos):Sp:=λvs H Q _=>∃ lk lg,∃ s:Nat,∃ xs ys:List Int,∃ sz,vs=[.ref lk,.ref lg,.int (s:Int)]/\H lk=some (.lst (xs.map V.int))/\H lg=some (.lst (ys.map V.int))/\xs.length=sz/\ys.length=sz/\s < sz/\sz<=16/\MT T lp eB H /\
 ∀ t (p:Nat) H',bV T H H'->MT T lp eB H'->H' t=some (.tup [.int (p:Int),.int ((s - p:Nat):Int)])->bD p s->(∀ p',bD p' s->xs.getD p 0 + ys.getD (s - p) 0<=xs.getD p' 0 + ys.getD (s - p') 0)->Q (.ref t) H'
structure KI (H:Hp) (lt:Addr) (ms:List M4) (v:Nat) (a:Int) (ws:Wq) (Tl:List (Addr×Nat×Nat)) (h:Fn):Prop where
 top:H lt=some (.lst (Tl.map λx=>V.ref x.1))
 row:∀ x∈Tl,H x.1=some (.tup [.int (x.2.1:Int),.int (x.2.2:Int)])
 tr:gP ms (cnt ms a) (aC v a) (Tl.map (·.2)) h
 sv:aI h ws
def vI (T:Addr)(cO:Pos):Sp:=λvs H Q _=>∃ b,∃ k:Nat,∃ a l lp af tr tm ps ws P,vs=[.ref b,.int (k:Int),.int a,.ref l,.ref lp]/\iI H b l lp af tr tm ps ws P/\k < af.length/\c6 (ps.map (·.2)) (cy (aO P)) af.length (wq ws) /\
 cy (aO P) (cnt (ps.map (·.2)) a) k (2 ^ ws.length - 1)<=ps.length/\(∀ x∈wq ws,x.1=k->a<=x.2)/\MT T cO eB H /\
 ∀ lt Tl h H',bV T H H'->MT T cO eB H'->H lt=none->KI H' lt (ps.map (·.2)) k a (wq ws) Tl h->(Tl.length:Int)=cy (aO P) (cnt (ps.map (·.2)) a) k (2 ^ ws.length - 1)->Q (.ref lt) H'
def iF (ms:List M4)(k:Nat)(a:Int)(ws:Wq)(i:Nat):Prop:=(∃ x,ws[i]?=some x/\bJ (fwd ms (aC k a) x.1) x.2=false)/\∀ j,j < i->∀ x,ws[j]?=some x->bJ (fwd ms (aC k a) x.1) x.2=true
def O1 (H:Hp)(t:Addr)(n:Nat)(ms:List M4)(k:Nat)(a:Int)(K:Nat)(ws:Wq):Prop:=
 (∃ i lt,H t=some (.tup [.str (Str.ofString "never"),.int ((i:Nat):Int),.ref lt])/\iF ms k a ws i/\H lt=some (.lst ((rep n (fwd ms (aC k a))).map oV))) \/
 ∃ lt lp Tl h P,H t=some (.tup [.str (Str.ofString "tree"),.ref lt,.ref lp])/\aI (fwd ms (aC k a)) ws/\KI H lt ms k a ws Tl h/\jy H lp ms.length n (2 ^ K) P/\c6 ms (cy (aO P)) n ws/\(Tl.length:Int)=cy (aO P) (cnt ms a) k (2 ^ K - 1)
def qp (T:Addr)(cO:Pos):Sp:=λvs H Q _=>∃ b,∃ k:Nat,∃ a l af tr tm ps ws,vs=[.ref b,.int (k:Int),.int a,.ref l]/\p8 H b l af tr tm ps ws/\af.length<=8/\ps.length<=24/\1<=ws.length/\k < af.length/\0<=a/\a<=1000000000/\(∀ x∈ws,0<=x.2.2/\x.2.2<=1000000000)/\MT T cO eB H /\
 ∀ t H',bV T H H'->MT T cO eB H'->O1 H' t af.length (ps.map (·.2)) k a ws.length (wq ws)->Q (.ref t) H'
end Sm
namespace Sm
open PySem L2 aU
theorem LM {k:Nat}{x:Int}:aC k x k=some x:=by unfold aC;rw [if_pos rfl]
theorem j6 {f:Fn}:∀ {ws:List W3}{st:Fn},(∀ x∈ws,below (f x.g) x.t=true->bJ (f x.o) x.t=true)->(∀ i y,st i=some y->bJ (f i) y=true)->∀ i y,ws.foldl aF st i=some y->bJ (f i) y=true
 | [],_,_,h,i,y,e=>h i y e
 | x::ws,st,hc,h,i,y,e=>by
  refine j6 (st:=aF st x) (λz hz=>hc z (.tail _ hz)) (λj u hj=>?_) i y e;unfold aF at hj;split at hj
  ·rename_i c;by_cases ej:j=x.o
   ·subst ej;rw [wx] at hj;cases hj;obtain ⟨v,ev,lv⟩:=aH.mp c.2;obtain ⟨u,eu,lu⟩:=aK.mp (h _ _ ev);exact hc x (.head _) (aH.mpr ⟨u,eu,by omega⟩)
   ·rw [wT ej] at hj;exact h j u hj
  ·exact h j u hj
theorem uR {n s:Nat}{a:Int}{ms:List M4}(g:Good n ms){x:W3}(hx:x∈aQ ms)(h:below (fwd ms (aC s a) x.g) x.t=true):bJ (fwd ms (aC s a) x.o) x.t=true:=by have:=xB.mp (iy (s:=s) (x:=a) g) x hx;simpa [h] using this
theorem mj {i:Nat}{y:Int}:∀ {ws:List W3}{st:Fn},st i=some y->ws.foldl aF st i=some y
 | [],_,h=>h
 | x::ws,st,h=>mj (ws:=ws) (st:=aF st x) (ki h)
theorem kh (ms:List M4)(s:Nat)(a:Int):fwd ms (aC s a) s=some a:=mj LM
theorem tF {Qv ms:List M4}(h:∀ m∈Qv,m∈ms){x:W3}(hx:x∈aQ Qv):x∈aQ ms:=by obtain ⟨m,hm,hx⟩:=yl.mp hx;exact yl.mpr ⟨m,h m hm,hx⟩
theorem Kd {n s:Nat}{a a':Int}{ms Qv:List M4}(g:Good n ms)(h:∀ m∈Qv,m∈ms)(la:a<=a'){i:Nat}{y:Int}(e:fwd Qv (aC s a') i=some y):bJ (fwd ms (aC s a) i) y=true:=by
 refine j6 (λx hx=>uR (s:=s) (a:=a) g (tF h hx)) (λj u hj=>?_) i y e;unfold aC at hj;split at hj
 ·rename_i ej;subst ej;cases hj;rw [kh];exact aK.mpr ⟨a,rfl,la⟩
 ·cases hj
end Sm
namespace L2
open PySem PySem.Spec PyProof.Rows
section
variable {prog:Program}{w:World}{A:Around}{E:Value->Shared->Prop}{s:Shared}
theorem ju:isSubtype (.type "range_iterator") (.type "reversed")=pure false:=by rw [isSubtype_type];kernel_rfl
def kB (n:Nat):Obj:={ cls:=.type "range_iterator", data:=.fields #[rawInt ((n:Int) - 1),rawInt (n:Int),rawInt (-1)] }
theorem lF {r:Addr}{n:Nat}{t u v:Tok}{Q:Value->Shared->Prop}(hr:IsRange s.heap r 0 (n:Int) 1 t u v)(hn:(n:Int) < 2 ^ 62)
  (h:Q (.ref s.heap.objs.size) { s with heap:=s.heap.push (kB n) }):wpAny (model prog w) A (call (.builtin "range.__reversed__") [.ref r]) Q E s:=by
 refine wpAny_call_entry F.slot_range_reversed ⟨_,hr,rfl⟩ F.entry_range_reversed ?_ (F.args_range_reversed_1 _);unfold Builtin.«range.__reversed__»;refine wpAny_bind (wpAny_of_eq (a:=Value.ref r) rfl ?_);have sz:Builtin.Range.rangeSize 0 (n:Int) 1=(n:Int):=by rw [rangeSize_one];split <;> omega
 have fit:∀ x:Int,-(2 ^ 62)<=x->x < 2 ^ 62->Builtin.Range.rangeFitsLong x=true:=λx h1 h2=>by
  unfold Builtin.Range.rangeFitsLong;simp only [zX,decide_eq_true_eq];constructor <;> omega
 unfold Builtin.Range.rangeFields;have ea:∀ (i:Int) (t:Tok),asInt? (Value.int i t)=(pure (some i):Sem (Option Int)):=λ_ _=>rfl;refine wpAny_bind (wpAny_bind (wpAny_field hr rfl (x:=.int 0 t) rfl ?_));rw [ea,pure_bind];refine wpAny_bind (wpAny_field hr rfl (x:=.int n u) rfl ?_);rw [ea,pure_bind];refine wpAny_bind (wpAny_field hr rfl (x:=.int 1 v) rfl ?_);rw [ea,pure_bind];refine wpAny_pure ?_;have sm:(Builtin.Range.rangeFitsLong 0 && Builtin.Range.rangeFitsLong (n:Int) && Builtin.Range.rangeFitsLong 1 && Builtin.Range.rangeFitsLong (-1) && Builtin.Range.rangeFitsLong (0 - 1) && Builtin.Range.rangeFitsLong (n:Int))=true:=by
  rw [fit 0 (by decide) (by decide),fit n (by omega) (by omega),fit 1 (by decide) (by decide),fit (-1) (by decide) (by decide),fit (0 - 1) (by decide) (by decide)];rfl
 dsimp only;rw [sz,sm];simp only [Bool.not_true,ze,if_false,if_true];have e:(0:Int) + ((n:Int) - 1) * 1=(n:Int) - 1:=by omega
 rw [e];exact wpAny_bind (wpAny_newObj_type (wpAny_pure ⟨_,rfl,h⟩))
theorem uQ {r:Addr}{n:Nat}{t u v:Tok}{Q₁:Value->Shared->Prop}(hr:IsRange s.heap r 0 (n:Int) 1 t u v)(hn:(n:Int) < 2 ^ 62)
  (h:Q₁ (.ref s.heap.objs.size) { s with heap:=s.heap.push (kB n) }) :
  codeAny (model prog w) A (.call (.builtin "reversed.__new__") ⟨[.type "reversed", .ref r],[]⟩) (wants Q₁ E) s:=by
 have hT:s.TypeIs (.ref r) "range" := ⟨_,hr,rfl⟩;refine codeAny_of_tree ?_;show wpAny _ A.in1 (do checkBuiltinCall "reversed.__new__" ⟨[.type "reversed", .ref r],[]⟩;again (.builtin "reversed.__new__" ⟨[.type "reversed", .ref r],[]⟩)) _ _ s;refine wpAny_bind (wpAny_of_eq (F.newCall_reversed_1 _) (wpAny_pure ⟨plainId_quiet F.plain_reversed_new _,codeAny_builtin F.entry_reversed_new ?_⟩));rw [Around.under_plainId F.plain_reversed_new _];unfold Builtin.«reversed.__new__»;refine wpAny_bind (wpAny_of_eq (newClass_reversed _) ?_);try dsimp only
 refine wpAny_bind (wpAny_of_eq (a:=()) (by first | rfl | kernel_rfl) ?_);refine wpAny_bind (wpAny_of_eq (a:=()) (by first | rfl | kernel_rfl) ?_);try dsimp only
 refine wpAny_bind (wpAny_specialOf hT F.slot_range_reversed.lookup ?_);try dsimp only
 refine wpAny_bind (wpAny_of_eq (F.slot_range_reversed.bind _) ?_);try dsimp only
 first
 | rw [if_neg (show ¬ ((Value.builtin "range.__reversed__" == Value.none)=true) from zK)]
 | (show wpAny _ _ (if (Value.builtin "range.__reversed__" == Value.none)=true then _ else _) _ _ _;rw [if_neg (show ¬ ((Value.builtin "range.__reversed__" == Value.none)=true) from zK)])
 refine wpAny_bind (wpAny_rule ?_);refine wpAny_bind (m:=runValue (.call (.builtin "range.__reversed__") ⟨[.ref r],[]⟩)) (show wpAny _ _ (call (.builtin "range.__reversed__") [.ref r]) _ _ _ from lF hr hn ?_)
 first
 | exact wpAny_pure h
 | exact wpAny_bind (wpAny_pure (wpAny_pure h))
theorem uS {r:Addr}{n:Nat}{t u v:Tok}{Q:Value->Shared->Prop}(hr:IsRange s.heap r 0 (n:Int) 1 t u v)(hn:(n:Int) < 2 ^ 62)
  (h:Q (.ref s.heap.objs.size) { s with heap:=s.heap.push (kB n) }):wpAny (model prog w) A (call (.type "reversed") [.ref r]) Q E s:=by
 refine callType_other (U := "range_iterator") (Q₁:=λobj aN=>obj=.ref s.heap.objs.size/\aN={ s with heap:=s.heap.push (kB n) }) (by decide +kernel) F.create_reversed ⟨_,_,F.mro_reversed⟩ F.made_reversed ju (F.typeCall_reversed_1 _) (uQ hr hn ⟨rfl,rfl⟩) ?_;rintro obj aN ⟨rfl,rfl⟩;exact ⟨⟨_,Heap.get?_push_size _ rfl,rfl⟩,h⟩
end
def QI (ta:TA):TI:=fun σ H R=>ta σ H λvs H1=>∃ n:Nat,vs=[.int (n:Int)]/\(n:Int) < 2 ^ 62/\R (RG ((n:Int) - 1) (-1) n) H1
theorem Ly {X:Cx}{tg a:Expr}{ta:TA}{p pos p2 gF:Pos}(hg:Gl X "reversed")(hm:X.mg "reversed" = none)(Vz:Gl X "range")(Vn:X.mg "range" = none)(ha:PA X [a] ta)(hs:starEach [a] X.env=[(false,eval a X.env)]:=by rfl)
  (LY:starEach [.Call (.Name "range" p2) [a] [] gF] X.env=[(false,eval (.Call (.Name "range" p2) [a] [] gF) X.env)]:=by rfl) :
  PI X tg (.Call (.Name "reversed" p) [.Call (.Name "range" p2) [a] [] gF] [] pos) (QI ta):=by
 intro aa s σ H R I h;refine Call_ (cG I hg hm boot_reversed (zi (rest:=[]) ?_ LY rfl));rw [LY];show wpAny _ _ (spliced ((false,eval (.Call (.Name "range" p2) [a] [] gF) X.env)::backTo pos (starEach [] X.env))) _ _ s;refine Calls.spliced_cons (Call_ (cG I Vz Vn boot_range (zi (aX (ha gF aa s σ H _ I h) λus s1 ⟨vs,H1,I1,r1,q1⟩=>?_) hs rfl)));obtain ⟨n,e,hn,q⟩:=q1;subst e;cases r1 with
 | cons r rr=>
  cases rr;obtain ⟨t,rfl⟩:=r;refine call_range_1 (Calls.spliced_nil ?_);have Wg:Inv X aa σ H1 { s1 with heap:=s1.heap.push { cls:=.type "range", data:=.fields #[.int 0 s1.toks,.int (n:Int) t,.int 1 (s1.toks + 1)] },toks:=s1.toks + 1 + 1 }:=I1.kept λb o e=>Heap.get?_push_of_some _ e;refine uS (n:=n) (IsRange.new ..) hn ?_;have I2:Inv X aa σ H1 { s1 with heap:=(s1.heap.push { cls:=.type "range", data:=.fields #[.int 0 s1.toks,.int (n:Int) t,.int 1 (s1.toks + 1)] }).push (kB n),toks:=s1.toks + 1 + 1 }:=Wg.kept λb o e=>Heap.get?_push_of_some _ e;have hit:IsRangeIter ((s1.heap.push { cls:=.type "range", data:=.fields #[.int 0 s1.toks,.int (n:Int) t,.int 1 (s1.toks + 1)] }).push (kB n)) (s1.heap.push { cls:=.type "range", data:=.fields #[.int 0 s1.toks,.int (n:Int) t,.int 1 (s1.toks + 1)] }).objs.size (((n:Int) - 1) + ((0:Nat):Int) * (-1)) ((n:Int) - ((0:Nat):Int)) (-1):=by
   have:=Heap.get?_push_size (s1.heap.push { cls:=.type "range", data:=.fields #[.int 0 s1.toks,.int (n:Int) t,.int 1 (s1.toks + 1)] }) (o:=kB n) rfl;rw [show ((n:Int) - 1) + ((0:Nat):Int) * (-1)=(n:Int) - 1 by omega,show (n:Int) - ((0:Nat):Int)=n by omega];exact this
  have T:=n9 (P:=X.prog) (w:=X.w) (K:=X.K) (tg:=tg) (s1.heap.push { cls:=.type "range", data:=.fields #[.int 0 s1.toks,.int (n:Int) t,.int 1 (s1.toks + 1)] }).objs.size ((n:Int) - 1) (-1) n;refine T.self X.A 0 _ _ _ hit ?_;refine ⟨_,[(s1.heap.push { cls:=.type "range", data:=.fields #[.int 0 s1.toks,.int (n:Int) t,.int 1 (s1.toks + 1)] }).objs.size],_,_,H1,rfl,I2,T,hit,λb hb=>?_,q⟩;have e:b=(s1.heap.push { cls:=.type "range", data:=.fields #[.int 0 s1.toks,.int (n:Int) t,.int 1 (s1.toks + 1)] }).objs.size:=by simpa using hb
  subst e;exact Wg.nj (zB _) (Wg.br.fresh (zB _))
end L2
namespace Sm
open PySem L2
theorem JN (s k i:Nat):(iX s k).testBit i=(s.testBit i && !decide (i=k)):=by
 unfold iX;by_cases h:s.testBit k=true
 ·rw [if_pos h];have p2:bD (2 ^ k) s:=λi hi=>by
   rw [zo] at hi;rw [<-of_decide_eq_true hi];exact h
  rw [(iR p2).2.2,zo];by_cases e:i=k
  ·subst e;simp
  ·simp [e,Ne.symm e]
 ·rw [if_neg h];by_cases e:i=k
  ·subst e;simp only [Bool.not_eq_true] at h;rw [h];rfl
  ·simp [e]
theorem Mk {ms:List M4}{ws:List (Addr×Nat×Int)}{j w i:Nat}{x:Addr×Nat×Int}(h:ws[i]?=some x):dm ms (wq ws) j w i=(decide (x.2.1=w) && decide (j<=cnt ms x.2.2)):=by unfold dm wq;rw [zG,h];rfl
theorem done_none {ms:List M4}{ws:Wq}{j w i:Nat}(h:ws.length<=i):dm ms ws j w i=false:=by unfold dm;rw [List.getElem?_eq_none h]
theorem dB (ws:List (Addr×Nat×Int)):(wq ws).length=ws.length:=zA _
theorem qZ {r:List Int}{x:Int}{i:Nat}(h:i < r.length):(r++[x]).getD i 0=r.getD i 0:=by rw [zb,zb,zf h]
theorem OD {r:List Int}{x:Int}:(r++[x]).getD r.length 0=x:=by rw [zb,zW (zB _),Nat.sub_self];rfl
theorem jS {ms:List M4}{ws:Wq}{j w s:Nat}{F:Option (Nat->Nat->Int)}{r:List Int}{x:Int}(lr:r.length=s)(hs:s < 2 ^ ws.length)
  (old:∀ s',s' < s->(az ms ws j w s'=s'->dz ms j F w s' (r.getD s' 0))/\r.getD s' 0=r.getD (az ms ws j w s') 0) (n1:az ms ws j w s=s->dz ms j F w s x) (n2:az ms ws j w s≠s->x=r.getD (az ms ws j w s) 0) :
  ∀ s',s' < s + 1->(az ms ws j w s'=s'->dz ms j F w s' ((r++[x]).getD s' 0))/\(r++[x]).getD s' 0=(r++[x]).getD (az ms ws j w s') 0:=λs' h=>by
 by_cases e:s'=s
 ·subst e;have le:=(wK (ms:=ms) (ws:=ws) (j:=j) (w:=w) hs).le;have g:(r++[x]).getD s' 0=x:=by rw [<-lr];exact OD
  rw [g];refine ⟨n1,?_⟩;by_cases e1:az ms ws j w s'=s'
  ·rw [e1,g]
  ·rw [qZ (by omega)];exact n2 e1
 ·have Pp:s' < s:=by omega
  have le:=(wK (ms:=ms) (ws:=ws) (j:=j) (w:=w) (Nat.lt_trans Pp hs)).le;have:=old s' Pp;rw [qZ (by omega),qZ (by omega)];exact this
structure KN (H0 H:Hp) (lp:Addr) (sz:Nat) (ms:List M4) (ws:Wq) (j:Nat) (F:Option (Nat->Nat->Int)) (B:List nP):Prop where
 row:∀ b∈B,H b.1=some (.lst (b.2.map V.int))/\b.2.length=sz/\H0 b.1=none/\b.1≠lp
 dp:∀ w b,B[w]?=some b->jb ms ws j F w λs=>b.2.getD s 0
theorem KN.same {H0 H H':Hp}{lp:Addr}{sz:Nat}{ms:List M4}{ws:Wq}{j:Nat}{F:Option (Nat->Nat->Int)}{B:List nP}(h:KN H0 H lp sz ms ws j F B)(s:aA H H'):KN H0 H' lp sz ms ws j F B:=
 ⟨λb hb=>⟨s _ _ (h.row b hb).1,(h.row b hb).2⟩,h.dp⟩
theorem KN.nil {H0 H:Hp}{lp:Addr}{sz:Nat}{ms:List M4}{ws:Wq}{j:Nat}{F:Option (Nat->Nat->Int)}:KN H0 H lp sz ms ws j F []:=⟨(λ_ z=>nomatch z),(λ_ _ z=>nomatch z)⟩
theorem kc {α:Type}{A:List α}{a:α}{k:Nat}{x:α}(h:(A++[a])[k]?=some x):(k < A.length/\A[k]?=some x)\/(k=A.length/\x=a):=by
 by_cases l:k < A.length
 ·rw [zf l] at h;exact .inl ⟨l,h⟩
 ·rw [zW (by omega)] at h;have:k - A.length=0:=by
   by_cases e:k - A.length=0
   ·exact e
   ·rw [List.getElem?_eq_none (by simp only [yR];omega)] at h;cases h
  rw [this] at h;simp at h;exact .inr ⟨by omega,h.symm⟩
theorem KN.snoc {H0 H:Hp}{lp:Addr}{sz:Nat}{ms:List M4}{ws:Wq}{j:Nat}{F:Option (Nat->Nat->Int)}{B:List nP}(h:KN H0 H lp sz ms ws j F B){l:Addr}{r:List Int}(h1:H l=some (.lst (r.map V.int)))(h2:r.length=sz)(h3:H0 l=none)(h4:l≠lp)(d:jb ms ws j F B.length λs=>r.getD s 0):KN H0 H lp sz ms ws j F (B++[(l,r)]):=by
 refine ⟨λb hb=>?_,λw b hb=>?_⟩
 ·rcases zQ.mp hb with m | m
  ·exact h.row b m
  ·cases zN.mp m;exact ⟨h1,h2,h3,h4⟩
 ·rcases kc hb with ⟨_,k⟩ | ⟨rfl,rfl⟩
  ·exact h.dp w b k
  ·exact d
structure gR (H0 H:Hp) (lp:Addr) (W sz:Nat) (ms:List M4) (ws:Wq) (A:List cP) (i:Nat):Prop where
 top:H lp=some (.lst (A.map λa=>V.ref a.1))
 str:∀ a∈A,H a.1=some (.lst (a.2.map λb=>V.ref b.1))/\a.2.length=W/\H0 a.1=none/\a.1≠lp
 row:∀ a∈A,∀ b∈a.2,H b.1=some (.lst (b.2.map V.int))/\b.2.length=sz/\H0 b.1=none/\b.1≠lp
 len:A.length=i
 dp:∀ k,k < i->∀ w,w < W->jb ms ws (ms.length - k) (if k=0 then none else some (cy (aO A) (k - 1))) w (cy (aO A) k w)
theorem gR.same {H0 H H':Hp}{lp:Addr}{W sz:Nat}{ms:List M4}{ws:Wq}{A:List cP}{i:Nat}(h:gR H0 H lp W sz ms ws A i)(s:aA H H'):gR H0 H' lp W sz ms ws A i:=
 ⟨s _ _ h.top,λa ha=>⟨s _ _ (h.str a ha).1,(h.str a ha).2⟩,λa ha b hb=>⟨s _ _ (h.row a ha b hb).1,(h.row a ha b hb).2⟩,h.len,h.dp⟩
theorem dU {A:List cP}{k:Nat}{a:cP}(h:A[k]?=some a):cy (aO A) k=λw s=>((a.2.map (·.2)).getD w []).getD s 0:=by funext w s;unfold cy aO;rw [zb (l:=A.map _),zG,h];rfl
theorem i7 {A:List cP}{a:cP}{k:Nat}(h:k < A.length):cy (aO (A++[a])) k=cy (aO A) k:=by obtain ⟨x,hx⟩:∃ x,A[k]?=some x:=⟨_,zI h⟩;rw [dU hx,dU (by rw [zf h];exact hx)]
theorem gR.snoc {H0 H H':Hp}{lp:Addr}{W sz:Nat}{ms:List M4}{ws:Wq}{A:List cP}{i:Nat}(h:gR H0 H lp W sz ms ws A i){la:Addr}{B:List nP}{F:Option (Nat->Nat->Int)}
  (bt:∀ c u,c≠lp->H c=some u->H' c=some u) (top:H' lp=some (.lst (A.map (λa=>V.ref a.1)++[V.ref la]))) (k:H' la=some (.lst (B.map λb=>V.ref b.1))) (f0:H0 la=none) (ne:la≠lp) (lB:B.length=W) (rB:KN H0 H' lp sz ms ws (ms.length - i) F B)
  (eF:F=if i=0 then none else some (cy (aO A) (i - 1))):gR H0 H' lp W sz ms ws (A++[(la,B)]) (i + 1):=by
 have li:=h.len;refine ⟨by rw [top,zF];rfl,λa ha=>?_,λa ha b hb=>?_,by rw [zO,li];rfl,λk' QZ w hw=>?_⟩
 ·rcases zQ.mp ha with m | m
  ·have:=h.str a m;exact ⟨bt _ _ this.2.2.2 this.1,this.2⟩
  ·cases zN.mp m;exact ⟨k,lB,f0,ne⟩
 ·rcases zQ.mp ha with m | m
  ·have:=h.row a m b hb;exact ⟨bt _ _ this.2.2.2 this.1,this.2⟩
  ·cases zN.mp m;exact rB.row b hb
 ·by_cases e:k'=i
  ·subst e;obtain ⟨b,hb⟩:∃ b,B[w]?=some b:=⟨_,zI (by omega)⟩;have d:=rB.dp w b hb;have e1:cy (aO (A++[(la,B)])) k' w=λs=>b.2.getD s 0:=by
    rw [dU (a:=(la,B)) (by rw [zW (by omega),li,Nat.sub_self];rfl)];funext s;simp only [zb,zG,hb,ye,Option.getD_some]
   rw [e1];rw [eF] at d;by_cases z:k'=0
   ·rw [if_pos z] at d ⊢;exact d
   ·rw [if_neg z] at d ⊢;rw [i7 (by omega)];exact d
  ·have:=h.dp k' (by omega) w hw;rw [i7 (k:=k') (by omega)];by_cases z:k'=0
   ·rw [if_pos z] at this ⊢;exact this
   ·rw [if_neg z] at this ⊢;rw [i7 (by omega)];exact this
theorem gR.fol {H0 H:Hp}{lp:Addr}{W sz:Nat}{ms:List M4}{ws:Wq}{A:List cP}{i:Nat}(h:gR H0 H lp W sz ms ws A (i + 1)):∃ a,A[i]?=some a/\kQ H (.ref a.1) W sz (some (cy (aO A) i)):=by obtain ⟨a,ha⟩:∃ a,A[i]?=some a:=⟨_,zI (by rw [h.len];omega)⟩;have m:=zD ha;refine ⟨a,ha,.inr ⟨a.1,a.2,rfl,(h.str a m).1,(h.str a m).2.1,λb hb=>⟨(h.row a m b hb).1,(h.row a m b hb).2.1⟩,?_⟩⟩;rw [dU ha]
theorem kL {A:List cP}{n j:Nat}(l:A.length=n + 1)(h:j<=n):cy (aO A.reverse) j=cy (aO A) (n - j):=by obtain ⟨x,hx⟩:∃ x,A[n - j]?=some x:=⟨_,zI (by omega)⟩;rw [dU hx,dU (a:=x) (by rw [List.getElem?_reverse (by omega),l];rw [show n + 1 - 1 - j=n - j by omega];exact hx)]
theorem gR.done {H0 H:Hp}{lp:Addr}{W:Nat}{ms:List M4}{ws:Wq}{A:List cP}(gd:Good W ms)(h:gR H0 H lp W (2 ^ ws.length) ms ws A (ms.length + 1)):c6 ms (cy (aO A.reverse)) W ws:=by
 refine ⟨λw hw=>?_,λj hj w hw=>?_⟩
 ·have:=h.dp 0 (by omega) w hw;rw [if_pos rfl,Nat.sub_zero] at this;rw [kL h.len (zB _),Nat.sub_self];exact this
 ·have:=h.dp (ms.length - j) (by omega) w hw;rw [if_neg (by omega),show ms.length - (ms.length - j)=j by omega,show ms.length - j - 1=ms.length - (j + 1) by omega] at this;rw [kL h.len (by omega),kL h.len (by omega)];exact this
theorem gR.pr {H0 H H':Hp}{lp lq:Addr}{W:Nat}{ms:List M4}{ws:Wq}{A:List cP}(gd:Good W ms)(h:gR H0 H lp W (2 ^ ws.length) ms ws A (ms.length + 1))(s:aA H H')(top:H' lq=some (.lst (A.reverse.map λa=>V.ref a.1))):jy H' lq ms.length W (2 ^ ws.length) A.reverse:=by have D:=h.done gd;refine ⟨top,λa ha=>s _ _ (h.str a (yF.mp ha)).1,λa ha b hb=>s _ _ (h.row a (yF.mp ha) b hb).1,by rw [yY,h.len],λa ha=>(h.str a (yF.mp ha)).2.1,λa ha b hb=>(h.row a (yF.mp ha) b hb).2.1,λa ha b hb x hx=>?_⟩;obtain ⟨j,hj⟩:=yS.mp ha;obtain ⟨w,hw⟩:=yS.mp hb;obtain ⟨k,hk⟩:=yS.mp hx;have lb:=(h.row a (yF.mp ha) b hb).2.1;have j1:=(zC.mp hj).1;have w1:=(zC.mp hw).1;have k1:=(zC.mp hk).1;rw [yY,h.len] at j1;rw [(h.str a (yF.mp ha)).2.1] at w1;have:=D.nonneg gd (ms.length - j) j (by omega) w w1 k (by omega);rw [sZ hj hw,OE hk] at this;exact this
theorem uU {xs:List V}{n:Nat}{x:V}(l:xs.length=n + 1)(h:xs[n]?=some x):dS xs (-1)=some x:=by
 have e:xs=xs.take n++[x]:=by rw [<-wM h,<- l,yD]
 rw [e];exact L2.KG _ _
theorem gR.Yi {K:PySem.W.Frag}{H0 H:Hp}{lp:Addr}{W sz:Nat}{ms:List M4}{ws:Wq}{A:List cP}{i:Nat}{σ:St}(h:gR H0 H lp W sz ms ws A i)(hs:σ[2]?=some (some (.ref lp))):∃ v F,kQ H v W sz F/\F=(if i=0 then none else some (cy (aO A) (i - 1))) /\
  ∀ Q:VK,Q v H->if (!(A.map λa=>V.ref a.1).isEmpty)=true then Ld (qG K) (qj 2) (Nf (rU λi=>V.int (-i)) (tC (V.int 1))) σ H Q else tC V.bG σ H Q:=by
 cases i with
 | zero=>
  have:A=[]:=List.length_eq_zero_iff.mp h.len;subst this;exact ⟨.bG,none,.inl ⟨rfl,rfl⟩,rfl,λQ q=>by rw [if_neg (λz=>nomatch z)];exact q⟩
 | succ i=>
  obtain ⟨a,ha,fo⟩:=h.fol;refine ⟨_,_,fo,by rw [if_neg (Nat.succ_ne_zero _)];rfl,λQ q=>?_⟩;have:(!(A.map λa=>V.ref a.1).isEmpty)=true:=by
   cases A with
   | nil=>cases ha
   | cons _ _=>rfl
  rw [if_pos this];exact ⟨_,hs,_,rfl,lp,_,_,_,rfl,rfl,aJ.of h.top,uU (n:=i) (by rw [zA,h.len]) (by rw [zG,ha];rfl),q⟩
end Sm
namespace L2
open PySem PySem.Spec PyProof.Rows
theorem K5 {c:TT}{tb:TS}{D:Ends}{σ:St}{H:Hp}{m0:Nat}(Pv:Nat->St->Hp->Prop)(h0:Pv m0 σ H)
  (hs:∀ m σ H,Pv m σ H->c σ H λb H1=>if b=true then tb (D.lp fun bE H'=>∃ m',m' < m/\Pv m' bE H') σ H1 else D.nx σ H1)
  (mono:∀ σ H Q Q',(∀ b H1,Q b H1->Q' b H1)->c σ H Q->c σ H Q'):jJ c tb D σ H:=by
 refine ⟨Pv,⟨_,h0⟩,?_⟩;intro m σ H p;refine mono σ H _ _ (λb H1 q=>?_) (hs m σ H p);cases b with
 | true=>exact ⟨_,fun bE H' h=>h,q⟩
 | false=>exact q
theorem V4 {i:Nat}{x:V}{σ:St}{H:Hp}{D:Ends}{c:TT}{tb u:TS}(h:jJ c tb (D.go (u D)) (σ.set i (some x)) H):jh i x σ H (D.go (qk (jJ c tb) u D)).nx:=h
end L2
namespace Sm
open PySem L2 aU
theorem aL.iA {T:Addr}{lp:Pos}{q:Str}{H H':Hp}{b tr tm:Addr}{af:List Int}{ps:List (Addr×M4)}(h:aL H b af tr tm ps)(m:MT T lp q H)(bt:bV T H H'):aL H' b af tr tm ps:=h.aR (MT.vq m bt)
theorem cA {T:Addr}{lp:Pos}{q:Str}{H H':Hp}{a:Addr}{xs:List V}(m:MT T lp q H)(bt:bV T H H')(k:H a=some (.lst xs)):H' a=some (.lst xs):=bt _ _ (m.JH k) k
theorem vt {T:Addr}{lp:Pos}{q:Str}{H H':Hp}{a:Addr}{xs:List V}(m:MT T lp q H)(bt:bV T H H')(k:H a=some (.tup xs)):H' a=some (.tup xs):=bt _ _ (m.qO k) k
theorem bS.iA {T:Addr}{lp:Pos}{q:Str}{H H':Hp}{l:Addr}{n:Nat}{ws:List (Addr×Nat×Int)}(h:bS H l n ws)(m:MT T lp q H)(bt:bV T H H'):bS H' l n ws:=
 ⟨cA m bt h.1,λx hx=>⟨vt m bt (h.2 x hx).1,(h.2 x hx).2⟩⟩
theorem jy.iA {T:Addr}{p0:Pos}{q:Str}{H H':Hp}{l:Addr}{nm w sz:Nat}{P:List cP}(h:jy H l nm w sz P)(m:MT T p0 q H)(bt:bV T H H'):jy H' l nm w sz P:=
 ⟨cA m bt h.top,λa ha=>cA m bt (h.str a ha),λa ha b hb=>cA m bt (h.row a ha b hb),h.len,h.T7,h.Ul,h.pos⟩
theorem iI.iA {T:Addr}{p0:Pos}{q:Str}{H H':Hp}{b l lp:Addr}{af:List Int}{tr tm:Addr}{ps:List (Addr×M4)}{ws:List (Addr×Nat×Int)}{P:List cP}(h:iI H b l lp af tr tm ps ws P)(m:MT T p0 q H)(bt:bV T H H'):iI H' b l lp af tr tm ps ws P:=
 ⟨h.bk.iA m bt,h.gd,h.r1,h.ud,h.wa.iA m bt,h.w1,h.w4,h.pr.iA m bt⟩
theorem iI.cb {H:Hp}{b l lp:Addr}{af:List Int}{tr tm:Addr}{ps:List (Addr×M4)}{ws:List (Addr×Nat×Int)}{P:List cP}(h:iI H b l lp af tr tm ps ws P):p8 H b l af tr tm ps ws:=⟨h.bk,h.gd,h.r1,h.ud,h.wa,h.w4⟩
theorem bV.Mz {p l:Addr}{H H':Hp}{o:HO}(b:bV p H H')(h:H l=none):bV p H (upd H' l o):=λc u n e=>by rw [xR (xQ e h)];exact b c u n e
theorem bV.fB {p:Addr}{H H1 H2:Hp}(b:bV p H H1)(s:aA H1 H2):bV p H H2:=λc u n e=>s c u (b c u n e)
theorem OH {T:Addr}{p0:Pos}{q:Str}{H H':Hp}(m:MT T p0 q H')(b:bV T H H'){l:Addr}(h:H' l=none):H l=none:=by
 cases e:H l with
 | none=>rfl
 | some o=>
  have:l≠T:=by
   rintro rfl;rcases m with m | ⟨_,m,_⟩ <;> (rw [h] at m;cases m)
  rw [b _ _ this e] at h;cases h
theorem aA.kH {p:Addr}{H H1:Hp}(s:aA H H1):bV p H H1:=λc u _ e=>s c u e
def kP (H:Hp)(ps:List (Addr×fh)):Prop:=∀ x∈ps,H x.1=some (.tup [.int (x.2.1:Int),.int (x.2.2.1:Int),.int (x.2.2.2:Int)])
def jo (H:Hp)(ps:List (Addr×Nat×Nat)):Prop:=∀ x∈ps,H x.1=some (.tup [.int (x.2.1:Int),.int (x.2.2:Int)])
section
variable {T:Addr} {cO:Pos} {H0 H H':Hp}{lg lq:Addr}{ms:List M4}{Vv:Nat->Nat->Nat->Int}{W:Nat}{ws:Wq}{v:Nat}{a:Int}{G:List (Addr×Nat×Nat)}{Qs:List (Addr×fh)}
theorem oH (h:kP H Qs){l:Addr}{o:HO}{xs:List V}(k:H l=some (.lst xs)):kP (upd H l o) Qs:=λx hx=>by
 rw [xR (bY (h x hx) k (by intro z;cases z))];exact h x hx
theorem pF (h:jo H G){l:Addr}{o:HO}{xs:List V}(k:H l=some (.lst xs)):jo (upd H l o) G:=λx hx=>by
 rw [xR (bY (h x hx) k (by intro z;cases z))];exact h x hx
theorem jo.aR (h:jo H G)(t:bL H H'):jo H' G:=λx hx=>t _ _ (h x hx)
theorem kP.aR (h:kP H Qs)(t:bL H H'):kP H' Qs:=λx hx=>t _ _ (h x hx)
structure fO (T:Addr) (cO:Pos) (H0 H:Hp) (lg lq:Addr) (G:List (Addr×Nat×Nat)) (Qs:List (Addr×fh)):Prop where
 bt:bV T H0 H
 mt:MT T cO eB H
 fg:H0 lg=none
 fq:H0 lq=none
 ne:lg≠lq
 kg:H lg=some (.lst (G.map λx=>V.ref x.1))
 kq:H lq=some (.lst (Qs.map λx=>V.ref x.1))
 pg:jo H G
 pq:kP H Qs
theorem fO.same (h:fO T cO H0 H lg lq G Qs)(s:aA H H'):fO T cO H0 H' lg lq G Qs:=
 ⟨h.bt.fB s,h.mt.bP s,h.fg,h.fq,h.ne,s _ _ h.kg,s _ _ h.kq,h.pg.aR (bL.same s),h.pq.aR (bL.same s)⟩
theorem fO.but (h:fO T cO H0 H lg lq G Qs)(b:bV T H H')(m:MT T cO eB H'):fO T cO H0 H' lg lq G Qs:=
 ⟨h.bt.trans b,m,h.fg,h.fq,h.ne,cA h.mt b h.kg,cA h.mt b h.kq,h.pg.aR (MT.vq h.mt b),h.pq.aR (MT.vq h.mt b)⟩
theorem fO.P8 {Q':List (Addr×fh)}(h:fO T cO H0 H lg lq G Qs)(p:kP H Q'):fO T cO H0 (upd H lq (.lst (Q'.map λx=>V.ref x.1))) lg lq G Q':=
 ⟨h.bt.Mz h.fq,h.mt.put h.kq,h.fg,h.fq,h.ne,by rw [xR h.ne];exact h.kg,xN,pF h.pg h.kq,oH p h.kq⟩
theorem fO.OZ (h:fO T cO H0 H lg lq G Qs){t:Addr}{x:fh}(k:H t=some (.tup [.int (x.1:Int),.int (x.2.1:Int),.int (x.2.2:Int)])):fO T cO H0 (upd H lq (.lst ((Qs.map λx=>V.ref x.1)++[V.ref t]))) lg lq G (Qs++[(t,x)]):=by
 have:=h.P8 (Q':=Qs++[(t,x)]) λy hy=>by
  rcases zQ.mp hy with m | m
  ·exact h.pq y m
  ·cases zN.mp m;exact k
 rw [zF] at this;exact this
theorem fO.V5 (h:fO T cO H0 H lg lq G Qs){t:Addr}{x:Nat×Nat}(k:H t=some (.tup [.int (x.1:Int),.int (x.2:Int)])):fO T cO H0 (upd H lg (.lst ((G.map λx=>V.ref x.1)++[V.ref t]))) lg lq (G++[(t,x)]) Qs:=by
 refine ⟨h.bt.Mz h.fg,h.mt.put h.kg,h.fg,h.fq,h.ne,by rw [xN,zF];rfl,by rw [xR (Ne.symm h.ne)];exact h.kq,?_,oH h.pq h.kg⟩;have:jo H (G++[(t,x)]):=λy hy=>by
  rcases zQ.mp hy with m | m
  ·exact h.pg y m
  ·cases zN.mp m;exact k
 exact pF this h.kg
end
theorem OC {ms:List M4}{Vv:Nat->Nat->Nat->Int}{W:Nat}{ws:Wq}(D:c6 ms Vv W ws){j w s:Nat}(lt:j < ms.length)(hw:w < W)(hs:s < 2 ^ ws.length)(z:az ms ws j w s≠0)(ne:Vv j w (az ms ws j w s)≠Vv (j + 1) w (az ms ws j w s)) :
  ∃ o t,cI ms j w o t/\∀ p,bD p (az ms ws j w s)->(∀ p',bD p' (az ms ws j w s)->Vv (j + 1) w p + Vv (j + 1) o (az ms ws j w s - p)<=Vv (j + 1) w p' + Vv (j + 1) o (az ms ws j w s - p'))->Vv j w (az ms ws j w s)=1 + Vv (j + 1) w p + Vv (j + 1) o (az ms ws j w s - p):=by
 obtain ⟨F,hF,hN,l⟩:=D.row (xH lt) hw hs;have e:=D.eq (xH lt) hw hs;rcases l with ⟨z',_⟩ | ⟨_,l⟩
 ·exact absurd z' z
 ·cases F with
  | none=>have:=hN rfl;omega
  | some F=>
   obtain ⟨_,rfl⟩:=hF _ rfl;rcases l with ⟨_,l⟩ | ⟨o,t,k,_,l,c⟩
   ·omega
   ·refine ⟨o,t,k,λp sp mn=>?_⟩;have l1:=l p sp;rcases c with c | ⟨p',Uk,c⟩
    ·omega
    ·have:=mn p' Uk;omega
theorem UA (n j:Nat)(h:j < n):3 ^ (n - j)=3 * 3 ^ (n - (j + 1)):=by rw [show n - j=n - (j + 1) + 1 by omega,Nat.pow_succ,Nat.mul_comm]
theorem qJ {α β:Type}{f:α->β}{l l':List β}(p:l.Perm l'):∀ xs:List α,l'=xs.map f->∃ ys:List α,ys.Perm xs/\l=ys.map f:=by
 induction p with
 | nil=>intro xs e;cases xs with
  | nil=>exact ⟨[],.refl _,rfl⟩
  | cons _ _=>cases e
 | cons x p ih=>intro xs e;cases xs with
  | nil=>cases e
  | cons y xs=>
   rw [za] at e;cases e;obtain ⟨ys,h1,rfl⟩:=ih xs rfl;exact ⟨y::ys,h1.cons _,rfl⟩
 | swap x y l=>intro xs e;match xs,e with
  | u::v::xs,e=>rw [za,za] at e;cases e;exact ⟨v::u::xs,.swap _ _ _,rfl⟩
 | trans p q Zm Zl=>
  intro xs e;obtain ⟨ys,h1,e1⟩:=Zl xs e;obtain ⟨zs,h2,e2⟩:=Zm ys e1;exact ⟨zs,h2.trans h1,e2⟩
theorem Nd {G:List (Addr×Nat×Nat)}{qs:List (Addr×List Int)}(p:qs.Perm (G.map λx=>(x.1,[(x.2.1:Int),(x.2.2:Int)])))(s:qs.Pairwise λa b=>lx b.2 a.2=false){T:List (Nat×Nat)}(pt:T.Perm (G.map (·.2)))(tp:T.Pairwise λx y=>x.1 < y.1) :
  ∃ Tl:List (Addr×Nat×Nat),Tl.Perm G/\qs=(Tl.map λx=>(x.1,[(x.2.1:Int),(x.2.2:Int)]))/\Tl.map (·.2)=T:=by
 obtain ⟨Tl,pm,rfl⟩:=qJ p G rfl;refine ⟨Tl,pm,rfl,?_⟩;have s':(Tl.map (·.2)).Pairwise λx y:Nat×Nat=>lx [(y.1:Int),(y.2:Int)] [(x.1:Int),(x.2:Int)]=false:=by
  rw [yx] at s ⊢;exact s
 refine List.Perm.eq_of_pairwise (le:=λx y:Nat×Nat=>lx [(y.1:Int),(y.2:Int)] [(x.1:Int),(x.2:Int)]=false) (λa b _ _ x y=>?_) s' (tp.imp λ{x y} h=>?_) ((pm.map _).trans pt.symm)
 ·have:=qQ y x;obtain ⟨a1,a2⟩:=a;obtain ⟨b1,b2⟩:=b;simp only [List.cons.injEq,and_true] at this;rw [Prod.mk.injEq];omega
 ·unfold lx;rw [if_neg (by omega)];exact decide_eq_false (by omega)
theorem jy.get {H:Hp}{l:Addr}{nm w sz:Nat}{P:List cP}(h:jy H l nm w sz P){j k:Nat}(hj:j<=nm)(hk:k < w):∃ a b,P[j]?=some a/\a.2[k]?=some b/\a∈P/\b∈a.2/\b.2.length=sz/\∀ s,b.2.getD s 0=cy (aO P) j k s:=by obtain ⟨a,ha⟩:∃ a,P[j]?=some a:=⟨_,zI (by rw [h.len];omega)⟩;have ma:=zD ha;obtain ⟨b,hb⟩:∃ b,a.2[k]?=some b:=⟨_,zI (by rw [h.T7 a ma];exact hk)⟩;have mb:=zD hb;exact ⟨a,b,ha,hb,ma,mb,h.Ul a ma b mb,λs=>(sZ ha hb).symm⟩
def kN (Qs:List (Addr×fh)):Prop:=∀ (i:Nat) x,Qs[i]?=some x->i<=x.2.1 + 1
theorem kN.pop {Q0:List (Addr×fh)}{x:Addr×fh}(h:kN (Q0++[x])):kN Q0/\Q0.length<=x.2.1 + 1:=
 ⟨λi y hy=>h i y (by rw [zf (zC.mp hy).1];exact hy),h _ _ (by rw [zW (zB _),Nat.sub_self];rfl)⟩
theorem kN.push {Q0:List (Addr×fh)}{x:Addr×fh}(h:kN Q0)(l:Q0.length<=x.2.1 + 1):kN (Q0++[x]):=λi y hy=>by
 rcases kc hy with ⟨_,k⟩ | ⟨rfl,rfl⟩
 ·exact h i y k
 ·exact l
theorem bF.kT {ms:List M4}{Vv:Nat->Nat->Nat->Int}{W:Nat}{ws:Wq}{v:Nat}{a:Int}{G:List (Nat×Nat)}{ps:List fh}{j w s:Nat}(e:bF ms Vv W ws v a G (ps++[(j,w,s)]))(D:c6 ms Vv W ws)(gd:Good W ms)(C:Vv (cnt ms a) v (2 ^ ws.length - 1)<=ms.length):G.length<=ms.length:=by have h1:=e.sum;have h2:=e.jd D gd;obtain ⟨l1,l2,l3,_⟩:=e.last;have h3:=D.nonneg gd (ms.length - j) j (by omega) w l2 s l3;omega
theorem bf {h:Fn}{ws:Wq}:aI h ws↔∀ x∈ws,bJ (h x.1) x.2=true:=
 ⟨λs x hx=>by obtain ⟨i,hi⟩:=yS.mp hx;exact s i x hi,λs i x hx=>s x (zD hx)⟩
theorem gP.RO {ms:List M4}{f h:Fn}{T:List (Nat×Nat)}:∀ {j:Nat},gP ms j f T h->gP ms 0 f T h
 | 0,t=>t
 | j + 1,t=>gP.RO t.lower
theorem gP.keep {ms:List M4}{j:Nat}{f h:Fn}{T:List (Nat×Nat)}(tr:gP ms j f T h):∀ {w:Nat}{y:Int},f w=some y->h w=some y:=by
 induction tr with
 | nil=>exact id
 | @cons j m g o t x f h T hj l hx lt r ih=>
  intro w y e;refine ih ?_;split
  ·rename_i fo;unfold put;split
   ·rename_i ew;rw [ew,fo] at e;cases e
   ·exact e
  ·exact e
theorem aS.to {ms:List M4}{v j0 w:Nat}{G:List (Nat×Nat)}{i:Nat}(h:aS ms v j0 G i w):∀ d,aS ms v j0 G (i + d) w
 | 0=>h
 | d + 1=>.keep (h.to d)
theorem aS.upTo {ms:List M4}{v j0 w:Nat}{G:List (Nat×Nat)}{i m:Nat}(h:aS ms v j0 G i w)(le:i<=m):aS ms v j0 G m w:=by have:=h.to (m - i);rwa [show i + (m - i)=m by omega] at this
theorem aS.Lr {ms:List M4}{v j0 j1 w:Nat}{G:List (Nat×Nat)}{i:Nat}(le:j1<=j0)(h:aS ms v j0 G i w):aS ms v j1 G i w:=by
 induction h with
 | root=>exact aS.root.upTo le
 | keep _ ih=>exact .keep ih
 | give _ m l ih=>exact .give ih m l
theorem gP.Rb {W:Nat}{ms:List M4}(gd:Good W ms){v j0:Nat}{G:List (Nat×Nat)}{j:Nat}{f h:Fn}{T:List (Nat×Nat)}(tr:gP ms j f T h):(∀ x∈T,x∈G)->(∀ w y,f w=some y->∃ i,i<=j/\aS ms v j0 G i w/\∀ z,y<=z->i<=cnt ms z) ->
  ∀ w y,h w=some y->∃ i,aS ms v j0 G i w/\∀ z,y<=z->i<=cnt ms z:=by
 induction tr with
 | nil=>intro _ hI w y e;obtain ⟨i,_,h1,h2⟩:=hI w y e;exact ⟨i,h1,h2⟩
 | @cons j m g o t x f h T hj l hx lt r ih=>
  intro hT hI;refine ih (λy hy=>hT y (.tail _ hy)) λw y e=>?_;have old:f w=some y->∃ i,i<=m + 1/\aS ms v j0 G i w/\∀ z,y<=z->i<=cnt ms z:=λe=>by
   obtain ⟨i,h0,h1,h2⟩:=hI w y e;exact ⟨i,by omega,h1,h2⟩
  split at e
  ·unfold put at e;split at e
   ·rename_i ew;cases e;subst ew;obtain ⟨i,h0,h1,_⟩:=hI g x hx;refine ⟨m + 1,zB _,.give (h1.upTo (by omega)) (hT _ (.head _)) l,λz hz=>?_⟩;obtain ⟨m',hm,em,_⟩:=l;have:=(eU gd.dY hm (t:=z)).mpr (by omega);omega
   ·exact old e
  ·exact old e
def Mr (ms:List M4)(v:Nat)(a:Int)(G:List (Nat×Nat))(ws:Wq):Prop:=∀ x∈ws,(∃ i,i<=cnt ms x.2/\aS ms v (cnt ms a) G i x.1)/\(x.1=v->a<=x.2)
theorem gP.OW {W:Nat}{ms:List M4}(gd:Good W ms){v:Nat}{a:Int}{T:List (Nat×Nat)}{h:Fn}{ws:Wq}(tr:gP ms 0 (aC v a) T h)(sv:aI h ws):Mr ms v a T ws:=λx hx=>by
 obtain ⟨y,hy,le⟩:=aK.mp (bf.mp sv x hx);obtain ⟨i,h1,h2⟩:=(tr.since gd).Rb gd (v:=v) (j0:=cnt ms a) (G:=T) (λ_ h=>h) (λw y e=>by
  unfold aC at e;split at e
  ·rename_i ew;subst ew;cases e;exact ⟨_,zB _,.root,λz hz=>kE gd.dY hz⟩
  ·cases e) x.1 y hy
 refine ⟨⟨i,h2 _ le,h1⟩,λe=>?_⟩;have:=tr.keep (w:=v) (y:=a) (if_pos rfl);rw [e,this] at hy;cases hy;exact le
theorem su {W:Nat}{ms:List M4}(gd:Good W ms){v:Nat}{a:Int}{G:List (Nat×Nat)}{ws:Wq}(b:Mr ms v a G ws):∃ T h,gP ms 0 (aC v a) T h/\aI h ws/\T.length<=G.length:=by
 have cl:=cW ms a;obtain ⟨T,h,tr,tG,_,tp,_,all⟩:=vZ gd (v:=v) (a:=a) (G:=G) (ms.length - cnt ms a) (cnt ms a) (aC v a) (by omega) (zB _) (λw k=>by
  have:w=v:=by
   generalize e:cnt ms a=i at k;have k':=k;cases k with
   | root=>rfl
   | keep q=>have:=q.ge;omega
   | give q=>have:=q.ge;omega
  subst this;exact ⟨a,if_pos rfl,.inl ⟨rfl,rfl⟩⟩) (λw x hx=>by
   unfold aC at hx;split at hx
   ·rename_i e;cases hx;exact .inl ⟨rfl,e⟩
   ·cases hx)
 refine ⟨T,h,tr.RO,bf.mpr λx hx=>?_,?_⟩
 ·obtain ⟨⟨j,hj,hh⟩,own⟩:=b x hx;obtain ⟨y,hy,ey⟩:=all j x.1 hh.ge (zu hj (cW _ _)) hh;rw [hy];refine aK.mpr ⟨y,rfl,?_⟩;rcases ey with ⟨rfl,e⟩ | ⟨m,o,lt,l⟩
  ·exact own e
  ·obtain ⟨m',hm,e,_⟩:=l;have:=(eU gd.dY hm (t:=x.2)).mp (by omega);omega
 ·have nd:T.Nodup:=tp.imp λl e=>by rw [e] at l;exact absurd l (zy _)
  by_cases le:T.length<=G.length
  ·exact le
  ·have:=(qK nd tG (by omega)).length_eq;omega
def aV (ms:List M4)(v:Nat)(a:Int)(ws:Wq)(x:Int):Prop:=
 (¬ aI (fwd ms (aC v a)) ws/\x=-1)\/(aI (fwd ms (aC v a)) ws/\∃ T h,gP ms 0 (aC v a) T h/\aI h ws/\x=(T.length:Int)/\∀ T' h',gP ms 0 (aC v a) T' h'->aI h' ws->T.length<=T'.length)
theorem aV.ge {ms:List M4}{v:Nat}{a:Int}{ws:Wq}{x:Int}(m:aV ms v a ws x):-1<=x:=by rcases m with ⟨_,rfl⟩ | ⟨_,T,h,_,_,rfl,_⟩ <;> omega
theorem aV.same {ms:List M4}{v:Nat}{a:Int}{ws MZ:Wq}{x y:Int}(m:aV ms v a ws x)(m':aV ms v a MZ y)(e:∀ z,z∈ws↔z∈MZ):x=y:=by
 have sv:∀ h,aI h ws↔aI h MZ:=λh=>by
  rw [bf,bf];exact ⟨λs z hz=>s z ((e z).mpr hz),λs z hz=>s z ((e z).mp hz)⟩
 rcases m with ⟨n,rfl⟩ | ⟨s,T,h,tr,st,rfl,mn⟩ <;> rcases m' with ⟨n',rfl⟩ | ⟨s',T',h',Na,mQ,rfl,WQ⟩
 ·rfl
 ·exact absurd ((sv _).mpr s') n
 ·exact absurd ((sv _).mp s) n'
 ·have h1:=mn T' h' Na ((sv _).mpr mQ);have h2:=WQ T h tr ((sv _).mp st);omega
theorem aV.part {ms:List M4}{v:Nat}{a:Int}{A ws:Wq}{x z:Int}(m:aV ms v a A x)(m':aV ms v a ws z)(s:∀ y∈A,y∈ws):(z=-1\/x<=z)/\(x=-1->z=-1):=by
 have sv:∀ h,aI h ws->aI h A:=λh t=>bf.mpr λy hy=>bf.mp t y (s y hy);rcases m with ⟨n,rfl⟩ | ⟨t,T,h,tr,st,rfl,mn⟩ <;> rcases m' with ⟨n',rfl⟩ | ⟨t',T',h',Na,mQ,rfl,WQ⟩
 ·exact ⟨.inl rfl,λ_=>rfl⟩
 ·exact absurd (sv _ t') n
 ·exact ⟨.inl rfl,λ_=>rfl⟩
 ·have:=mn T' h' Na (sv _ mQ);exact ⟨.inr (by omega),λe=>by omega⟩
theorem aV.whole {W:Nat}{ms:List M4}(gd:Good W ms){v:Nat}{a:Int}{A B:Wq}{x y z:Int}(m1:aV ms v a A x)(m2:aV ms v a B y)(m:aV ms v a (A++B) z):(x≠-1->y≠-1->z≠-1/\z<=x + y):=λnx ny=>by
 rcases m1 with ⟨_,rfl⟩ | ⟨t1,T1,h1,Yo,s1,rfl,_⟩
 ·exact absurd rfl nx
 rcases m2 with ⟨_,rfl⟩ | ⟨t2,T2,h2,Uc,s2,rfl,_⟩
 ·exact absurd rfl ny
 have b:Mr ms v a (T1++T2) (A++B):=λw hw=>by
  rcases zQ.mp hw with hw | hw
  ·obtain ⟨⟨i,i1,i2⟩,o⟩:=Yo.OW gd s1 w hw;exact ⟨⟨i,i1,i2.mono λu hu=>zT _ hu⟩,o⟩
  ·obtain ⟨⟨i,i1,i2⟩,o⟩:=Uc.OW gd s2 w hw;exact ⟨⟨i,i1,i2.mono λu hu=>zE _ hu⟩,o⟩
 rcases m with ⟨n,rfl⟩ | ⟨_,T,h,_,_,rfl,mn⟩
 ·refine absurd (bf.mpr λw hw=>?_) n;rcases zQ.mp hw with hw | hw
  ·exact bf.mp t1 w hw
  ·exact bf.mp t2 w hw
 ·obtain ⟨T',h',Na,s',le⟩:=su gd b;have:=mn T' h' Na s';rw [zO] at le;exact ⟨by omega,by omega⟩
theorem aV.later {ms:List M4}{v:Nat}{a:Int}{ws MZ:Wq}{x y:Int}(m:aV ms v a ws x)(m':aV ms v a MZ y)(e:∀ z∈MZ,∃ u∈ws,z.1=u.1/\u.2<=z.2):y≠-2/\(x=-1\/0<=y/\y<=x):=by
 have g:=m'.ge;refine ⟨by omega,?_⟩;have sv:∀ h,aI h ws->aI h MZ:=λh t=>bf.mpr λz hz=>by
  obtain ⟨u,hu,e1,e2⟩:=e z hz;obtain ⟨k,hk,le⟩:=aK.mp (bf.mp t u hu);exact aK.mpr ⟨k,by rw [e1];exact hk,by omega⟩
 rcases m with ⟨_,rfl⟩ | ⟨t,T,h,tr,s,rfl,_⟩
 ·exact .inl rfl
 ·rcases m' with ⟨n,rfl⟩ | ⟨_,T',h',_,_,rfl,mn⟩
  ·exact absurd (sv _ t) n
  ·have:=mn T h tr (sv _ s);exact .inr ⟨by omega,by omega⟩
theorem aV.Rk {W:Nat}{ms:List M4}(gd:Good W ms){v:Nat}{a:Int}(a0:0<=a){ws:Wq}{x y:Int}(m:aV ms v a ws x)(m':aV ms v 0 ws y):y≠-2/\(x=-1\/0<=y/\y<=x):=by
 have g:=m'.ge;refine ⟨by omega,?_⟩;rcases m with ⟨_,rfl⟩ | ⟨t,T,h,tr,s,rfl,_⟩
 ·exact .inl rfl
 ·rcases m' with ⟨n,rfl⟩ | ⟨_,T',h',_,_,rfl,mn⟩
  ·refine absurd (bf.mpr λw hw=>?_) n;obtain ⟨k,hk,le⟩:=aK.mp (bf.mp t w hw);obtain ⟨u,hu,lu⟩:=aK.mp (Kd gd (λ_ h=>h) a0 hk);exact aK.mpr ⟨u,hu,by omega⟩
  ·have b:Mr ms v 0 T ws:=λw hw=>by
    obtain ⟨⟨i,i1,i2⟩,o⟩:=tr.OW gd s w hw;exact ⟨⟨i,i1,i2.Lr (kE gd.dY a0)⟩,λe=>ym a0 (o e)⟩
   obtain ⟨T2,h2,Uc,s2,le⟩:=su gd b;have:=mn T2 h2 Uc s2;exact .inr ⟨by omega,by omega⟩
def fY (ws:List (Addr×Nat×Int)):Prop:=∀ x∈ws,0<=x.2.2/\x.2.2<=1000000000
def qo:Sp:=λvs H Q _=>∃ p b m af tr tm ps,vs=[.ref p,.ref b,.int m]/\1<=m/\m<=4/\bB H p/\aL H b af tr tm ps/\Good af.length (ps.map (·.2))/\1<=af.length/\af.length<=12 /\
 ∀ l ws H',Go p H H'->H l=none->l≠p->bS H' l af.length ws->fY ws->1<=ws.length->(ws.length:Int)<=m->Q (.ref l) H'
def kW:Sp:=λvs H Q _=>∃ b,∃ k:Nat,∃ a lt af tr tm ps Tl h,vs=[.ref b,.int (k:Int),.int a,.ref lt]/\aL H b af tr tm ps/\Good af.length (ps.map (·.2))/\af.length<=12/\k < af.length/\H lt=some (.lst (Tl.map λx=>V.ref x.1))/\jo H Tl/\gP (ps.map (·.2)) 0 (aC k a) (Tl.map (·.2)) h /\
 ∀ l H',aA H H'->H' l=some (.lst ((rep af.length h).map oV))->Q (.ref l) H'
def qq:Sp:=λvs H Q _=>∃ l lw n h ws,vs=[.ref l,.ref lw]/\H l=some (.lst ((rep n h).map oV))/\bS H lw n ws/\ws.length<=4/\aI h (wq ws)/\∀ H',aA H H'->Q (.bl true) H'
def tV:Sp:=λvs H Q _=>∃ b,∃ k:Nat,∃ a lw af tr tm ps ws,vs=[.ref b,.int (k:Int),.int a,.ref lw]/\aL H b af tr tm ps/\Good af.length (ps.map (·.2))/\af.length<=12/\k < af.length/\bS H lw af.length ws/\ws.length<=4 /\
 (∀ i,iF (ps.map (·.2)) k a (wq ws) i->∀ H',aA H H'->Q (.int ((i:Nat):Int)) H')/\(aI (fwd (ps.map (·.2)) (aC k a)) (wq ws)->∀ H',aA H H'->Q .bG H')
structure nQ (T:Addr) (cO:Pos) (H:Hp) (b:Addr) (k:Nat) (a:Int) (af:List Int) (tr tm:Addr) (ps:List (Addr×M4)):Prop where
 bk:aL H b af tr tm ps
 gd:Good af.length (ps.map (·.2))
 r1:1<=af.length
 r8:af.length<=8
 Jw:ps.length<=24
 hk:k < af.length
 a0:0<=a
 a9:a<=1000000000
 mt:MT T cO eB H
theorem nQ.but {T:Addr}{cO:Pos}{H H':Hp}{b:Addr}{k:Nat}{a:Int}{af:List Int}{tr tm:Addr}{ps:List (Addr×M4)}(c:nQ T cO H b k a af tr tm ps)(bt:bV T H H')(m:MT T cO eB H'):nQ T cO H' b k a af tr tm ps:=
 ⟨c.bk.iA c.mt bt,c.gd,c.r1,c.r8,c.Jw,c.hk,c.a0,c.a9,m⟩
theorem nQ.same {T:Addr}{cO:Pos}{H H':Hp}{b:Addr}{k:Nat}{a:Int}{af:List Int}{tr tm:Addr}{ps:List (Addr×M4)}(c:nQ T cO H b k a af tr tm ps)(s:aA H H'):nQ T cO H' b k a af tr tm ps:=
 c.but (aA.kH s) (c.mt.bP s)
def vL (T:Addr)(cO:Pos):Sp:=λvs H Q _=>∃ b,∃ k:Nat,∃ a lw af tr tm ps ws,vs=[.ref b,.int (k:Int),.int a,.ref lw]/\nQ T cO H b k a af tr tm ps/\bS H lw af.length ws/\fY ws/\1<=ws.length/\ws.length<=4 /\
 ∀ x H',bV T H H'->MT T cO eB H'->aV (ps.map (·.2)) k a (wq ws) x->Q (.int x) H'
def qu:Sp:=λvs H Q _=>∃ x y,vs=[.int x,.int y]/\x≠-2/\(y=-1\/0<=x/\x<=y)/\Q (.bl true) H
def tS (T:Addr)(cO:Pos):Sp:=λvs H Q _=>∃ b,∃ k:Nat,∃ a lw,∃ p:Nat,∃ z af tr tm ps ws,vs=[.ref b,.int (k:Int),.int a,.ref lw,.int (p:Int),.int z]/\nQ T cO H b k a af tr tm ps/\bS H lw af.length ws/\fY ws/\1<=p/\p < ws.length/\ws.length<=4/\aV (ps.map (·.2)) k a (wq ws) z /\
 ∀ H',bV T H H'->MT T cO eB H'->Q (.bl true) H'
def tR (T:Addr)(cO:Pos):Sp:=λvs H Q _=>∃ b p af tr tm ps,vs=[.ref b,.ref p]/\aL H b af tr tm ps/\Good af.length (ps.map (·.2))/\1<=af.length/\af.length<=8/\ps.length<=24/\bB H p/\MT T cO eB H /\
 ∀ H',(∀ c u,c≠T->c≠p->H c=some u->H' c=some u)->MT T cO eB H'->Q (.bl true) H'
theorem qN {ms:List M4}{k:Nat}{a:Int}{ws:Wq}{i j:Nat}(h:iF ms k a ws i)(h':iF ms k a ws j):i=j:=by
 obtain ⟨⟨x,hx,ex⟩,l⟩:=h;obtain ⟨⟨y,hy,ey⟩,m⟩:=h';by_cases e:i=j
 ·exact e
 ·by_cases c:i < j
  ·have:=m i c x hx;rw [ex] at this;cases this
  ·have:=l j (by omega) y hy;rw [ey] at this;cases this
theorem iV {ms:List M4}{k:Nat}{a:Int}{ws:Wq}{i:Nat}(h:iF ms k a ws i):¬ aI (fwd ms (aC k a)) ws:=λsv=>by
 obtain ⟨⟨x,hx,ex⟩,_⟩:=h;have:=sv i x hx;rw [ex] at this;cases this
theorem bS.bound {H:Hp}{l:Addr}{n:Nat}{ws:List (Addr×Nat×Int)}(wa:bS H l n ws):∀ x∈wq ws,x.1 < n:=λx hx=>by
 obtain ⟨y,hy,rfl⟩:=zS.mp hx;exact (wa.2 y hy).2
theorem tM {ms:List M4}{W:Nat}{ws:Wq}{k:Nat}{a:Int}{V:Nat->Nat->Nat->Int}{T:List (Nat×Nat)}{h:Fn}(gd:Good W ms)(hk:k < W)(LW:∀ x∈ws,x.1 < W)(dp:c6 ms V W ws)(sv:aI (fwd ms (aC k a)) ws)(tr:gP ms (cnt ms a) (aC k a) T h)(st:aI h ws)(len:(T.length:Int)=V (cnt ms a) k (2 ^ ws.length - 1)):aV ms k a ws (T.length:Int):=
 .inr ⟨sv,T,h,tr.RO,st,rfl,λT' h' Na Uj=>by
  have:=qF (dp.OL gd LW) gd rfl hk (Na.since gd) Uj;omega⟩
theorem rH {ms:List M4}{W:Nat}(gd:Good W ms){k w:Nat}{a z:Int}(n:bJ (fwd ms (aC k a) w) z=false):sW ms k w a z (fwd ms (aC k a))=true:=by unfold sW;rw [kh,n,iy gd];simp [bJ]
theorem uL {K:PySem.W.Frag}{H:Hp}{x y:V}(fx:bT x=true)(fy:bT y=true):∀ (i:Nat) (u v:V),[x,y][i]?=some u->[x,y][i]?=some v->Eqv K H 0 u v true:=λi u v h h'=>by
 rw [h] at h';cases h'
 match i,h with
 | 0,h=>cases h;exact .inr ⟨fx,fx,(pJ fx).symm⟩
 | 1,h=>cases h;exact .inr ⟨fy,fy,(pJ fy).symm⟩
structure i9 (T:Addr) (cO:Pos) (p:Addr) (H0 H:Hp) (b:Addr) (af:List Int) (tr tm:Addr) (ps:List (Addr×M4)) (lw:Addr) (ws:List (Addr×Nat×Int)):Prop where
 rel:∀ c u,c≠T->c≠p->H0 c=some u->H c=some u
 pu:bB H p
 mt:MT T cO eB H
 bk:aL H b af tr tm ps
 wa:bS H lw af.length ws
 Qo:lw≠p
section
variable {T p:Addr} {cO:Pos} {H0 H H':Hp}{b lw tr tm:Addr}{af:List Int}{ps:List (Addr×M4)}{ws:List (Addr×Nat×Int)}
theorem i9.go (h:i9 T cO p H0 H b af tr tm ps lw ws)(g:Go p H H'):i9 T cO p H0 H' b af tr tm ps lw ws:=
 ⟨λc u n1 n2 e=>g.1 c u n2 (h.rel c u n1 n2 e),g.2,h.mt.go h.pu g,h.bk.aR (g.aR h.pu),h.wa.VN h.pu h.Qo g,h.Qo⟩
theorem i9.but (h:i9 T cO p H0 H b af tr tm ps lw ws)(bt:bV T H H')(m:MT T cO eB H'):i9 T cO p H0 H' b af tr tm ps lw ws:=
 ⟨λc u n1 n2 e=>bt c u n1 (h.rel c u n1 n2 e),MT.Qj h.mt bt h.pu,m,h.bk.iA h.mt bt,h.wa.iA h.mt bt,h.Qo⟩
theorem i9.same (h:i9 T cO p H0 H b af tr tm ps lw ws)(s:aA H H'):i9 T cO p H0 H' b af tr tm ps lw ws:=h.but (aA.kH s) (h.mt.bP s)
theorem i9.co (h:i9 T cO p H0 H b af tr tm ps lw ws)(gd:Good af.length (ps.map (·.2)))(r1:1<=af.length)(r8:af.length<=8)(Jw:ps.length<=24){k:Nat}{a:Int}(hk:k < af.length)(a0:0<=a)(a9:a<=1000000000):nQ T cO H b k a af tr tm ps:=⟨h.bk,gd,r1,r8,Jw,hk,a0,a9,h.mt⟩
end
theorem M0 (A B:List (Addr×Nat×Int)):wq (A++B)=wq A++wq B:=zF
theorem vm (ws:List (Addr×Nat×Int))(k:Nat):wq ws=wq (ws.take k)++wq (ws.drop k):=by rw [<-M0,List.take_append_drop]
theorem bS.vG {H:Hp}{l l':Addr}{n:Nat}{ws vs:List (Addr×Nat×Int)}(wa:bS H l n ws)(s:∀ x∈vs,x∈ws)(k:H l'=some (.lst (vs.map λx=>V.ref x.1))):bS H l' n vs:=⟨k,λx hx=>wa.2 x (s x hx)⟩
theorem LC {W:Nat}{ms:List M4}(gd:Good W ms){v:Nat}{a:Int}{A B ws:Wq}(e:ws=A++B){x y z:Int}(m1:aV ms v a A x)(m2:aV ms v a B y)(m:aV ms v a ws z) :
  -1<=x/\-1<=y/\((x=-1\/y=-1)->z=-1)/\(x≠-1->y≠-1->z≠-1/\x<=z/\y<=z/\z<=x + y):=by
 subst e;have h1:=m1.part m λu hu=>zT _ hu;have h2:=m2.part m λu hu=>zE _ hu;have h3:=aV.whole gd m1 m2 m;have g1:=m1.ge;have g2:=m2.ge;refine ⟨g1,g2,λh=>h.elim h1.2 h2.2,λn1 n2=>?_⟩;obtain ⟨n3,le⟩:=h3 n1 n2;refine ⟨n3,?_,?_,le⟩
 ·exact h1.1.resolve_left n3
 ·exact h2.1.resolve_left n3
end Sm
namespace L2
open PySem
set_option genInjectivity false
set_option genSizeOf false
structure Bk (X:Cx) (b:List Stmt) where
 t:TS
 ps:mJ X b t
theorem bU {X:Cx}{b:List Stmt}{R:TS->Prop}(h:let Y:=X;∃ t,mJ Y b t/\R t):∃ t,mJ X b t/\R t:=h
theorem Bk.bl {X:Cx}{a:Stmt}{rest:List Stmt}(B:Bk X (a::rest)):p7 X (a::rest) B.t:=Kz B.ps
abbrev IV:=Nat->St->Hp->Prop
abbrev IC:=Nat->St->List V->Hp->Prop
def Ws:Stmt:=.Pass ⟨0,0,0,0⟩
def nb (l:List Stmt)(i:Nat):List Stmt:=match l.getD i Ws with
 | .If _ a _ _=>a
 | .For _ _ a _ _=>a
 | .While _ a _ _=>a
 | _=>[]
def ne (l:List Stmt)(i:Nat):List Stmt:=match l.getD i Ws with
 | .If _ _ a _=>a
 | _=>[]
end L2
namespace Sm
open PySem L2
theorem bI:1002<=sizeLine:=by rw [sizeLine_eq];decide
end Sm


namespace L2
open PySem PySem.Spec PyProof.Rows
theorem bw {N P:List Str}{sc:Scope}(a:sc.kind=.function:=by rfl)(b:sc.isCoroutine=false:=by rfl)(c:sc.isGenerator=false:=by rfl)(d:N.Nodup:=by decide +kernel)(e:N.take P.length=P:=by rfl)(f:∀ x∈P,sc.names.lookup x=some .local∨sc.names.lookup x=some .cell:=by decide +kernel)(g:∀ y∈sc.names,y.2≠.free:=by decide +kernel):ay N P sc:=⟨a,b,c,d,e,f,g⟩
theorem nE {o:List Str}{c:List Nat}{N:List Str}{s p:Scope}(k:p.kind=.function:=by rfl)(a:∀ y∈p.names,y.2≠.cell:=by decide +kernel)(l:∀ y∈p.names,y.2=.local->p.names.lookup y.1=some .local:=by decide +kernel)(f:∀ y∈p.names,y.2=.free->s.names.lookup y.1=some .cell∨s.names.lookup y.1=some .free:=by decide +kernel)(g:∀ i∈c,i < N.length∧p.names.lookup ((N[i]?).getD Str.empty)=some .free:=by decide +kernel):bq o c N s p:=⟨k,a,l,f,g⟩
end L2
namespace Sm
open PySem L2
def top (i:Nat):Stmt:=PySem.Challenge.pw_satchelmeet_k64_whole_wishes_in_any_orde.main.body.getD i (.Pass ⟨0,0,0,0⟩)
abbrev wV:Stmt:=top 37
abbrev wu:Stmt:=top 38
abbrev C3:Stmt:=top 39
abbrev wW:Stmt:=top 40
abbrev ww:Stmt:=top 41
abbrev xl:Stmt:=top 42
abbrev Cm:Stmt:=top 43
abbrev wI:Stmt:=top 44
abbrev C2:Stmt:=top 45
abbrev D3:Stmt:=top 5
abbrev Dw:Stmt:=top 6
abbrev EE:Stmt:=top 7
abbrev D4:Stmt:=top 8
abbrev ED:Stmt:=top 9
abbrev Dx:Stmt:=top 11
abbrev DO:Stmt:=top 12
abbrev EC:Stmt:=top 13
abbrev D2:Stmt:=top 14
abbrev C1:Stmt:=top 15
abbrev Fp:Stmt:=top 17
abbrev CC:Stmt:=top 18
abbrev En:Stmt:=top 19
abbrev Cl:Stmt:=top 21
abbrev wF:Stmt:=top 25
abbrev BY:Stmt:=top 23
abbrev wU:Stmt:=top 24
abbrev wX:Stmt:=top 32
abbrev CN:Stmt:=top 33
abbrev CU:Stmt:=top 31
abbrev wL:Stmt:=top 30
abbrev Cu:Stmt:=top 35
abbrev wC:Stmt:=top 34
abbrev Ck:Stmt:=top 29
abbrev wY:Stmt:=top 46
abbrev wN:Stmt:=top 47
abbrev xp:Stmt:=top 48
abbrev wj:Stmt:=top 49
abbrev wB:Stmt:=top 50
abbrev wy:Stmt:=top 51
abbrev wJ:Stmt:=top 52
abbrev CD:Stmt:=top 53
abbrev wZ:Stmt:=top 54
abbrev xq:Stmt:=top 55
abbrev Gc:Stmt:=top 56
def bM:Pos:=⟨130,33,130,76⟩
set_option genInjectivity false
set_option genSizeOf false
structure Ad where
 AG:Addr
 By:FuncData
 AT:Addr
 BO:FuncData
 Bh:Addr
 Cf:FuncData
 AE:Addr
 Bw:FuncData
 AU:Addr
 BP:FuncData
 Aj:Addr
 Ay:FuncData
 AW:Addr
 BR:FuncData
 AS:Addr
 BN:FuncData
 AC:Addr
 Bu:FuncData
 Be:Addr
 Cc:FuncData
 AO:Addr
 BK:FuncData
 BV:Addr
 Cz:FuncData
 Bf:Addr
 Cd:FuncData
 BU:Addr
 Cy:FuncData
 AQ:Addr
 BL:FuncData
 BW:Addr
 CA:FuncData
 DK:Addr
 EN:FuncData
 Bc:Addr
 Ca:FuncData
 Bd:Addr
 Cb:FuncData
 Cq:Addr
 C0:FuncData
 Al:Addr
 AL:FuncData
 Co:Addr
 CY:FuncData
 AR:Addr
 BM:FuncData
 Ai:Addr
 Ax:FuncData
 Ag:Addr
 At:FuncData
 Bg:Addr
 Ce:FuncData
 AA:Addr
 Bt:FuncData
 CO:Addr
 DP:FuncData
 Cp:Addr
 CZ:FuncData
 Am:Addr
 AM:FuncData
 AB:Addr
 Az:FuncData
 BT:Addr
 Cw:FuncData
 Cn:Addr
 CW:FuncData
 AD:Addr
 Bv:FuncData
 Ar:Addr
 Ba:FuncData
 Af:Addr
 Ao:FuncData
 As:Addr
 Bb:FuncData
 AX:Addr
 BS:FuncData
 AI:Addr
 BA:FuncData
 AV:Addr
 BQ:FuncData
 An:Addr
 AN:FuncData
 AH:Addr
 Bz:FuncData
 AF:Addr
 Bx:FuncData
 EA:Addr
 Gm:FuncData
 tC:Addr
 tP:Addr
structure Tx (K:PySem.W.Frag) (mg:Str->Option Value) (a:Ad) (p6:Tok) (ff:Tok) (eX:Tok):Prop where
 A7:bu K "_law_purse" "_law_purse" wV a.AG a.By
 C9:Binds K a.By ["_law_script_here", "_law_k_here"] []
 C5:mg "_law_purse" = some (.ref a.AG)
 C7:zJ K (.ref a.AG)=true
 Bo:bu K "_law_take" "_law_take" wu a.AT a.BO
 Ae:Binds K a.BO ["_law_purse_here_here", "_law_many_here"] []
 Ab:mg "_law_take" = some (.ref a.AT)
 Ac:zJ K (.ref a.AT)=true
 BG:bu K "_law_far" "_law_far" C3 a.Bh a.Cf
 Ie:Binds K a.Cf ["_law_purse_here_here"] []
 HQ:mg "_law_far" = some (.ref a.Bh)
 HX:zJ K (.ref a.Bh)=true
 A5:bu K "_law_rooms" "_law_rooms" wW a.AE a.Bw
 GJ:Binds K a.Bw ["_law_purse_here_here", "_law_walkers"] []
 Gx:mg "_law_rooms" = some (.ref a.AE)
 GD:zJ K (.ref a.AE)=true
 Bp:bu K "_law_step" "_law_step" ww a.AU a.BP
 Ho:Binds K a.BP ["_law_purse_here_here"] []
 Hc:mg "_law_step" = some (.ref a.AU)
 Hi:zJ K (.ref a.AU)=true
 Aq:bu K "_law_meetings" "_law_meetings" xl a.Aj a.Ay
 Fg:Binds K a.Ay ["_law_purse_here_here", "_law_walkers", "_law_most"] []
 Fe:mg "_law_meetings" = some (.ref a.Aj)
 Ff:zJ K (.ref a.Aj)=true
 Br:bu K "_law_book" "_law_book" Cm a.AW a.BR
 Hq:Binds K a.BR ["_law_purse_here_here", "_law_most_walkers", "_law_most_meetings"] []
 Hd:mg "_law_book" = some (.ref a.AW)
 Hj:zJ K (.ref a.AW)=true
 Bn:bu K "_law_time" "_law_time" wI a.AS a.BN
 E8:Binds K a.BN ["_law_purse_here_here", "_law_book_here_here", "_law_later_here"] []
 E2:mg "_law_time" = some (.ref a.AS)
 E5:zJ K (.ref a.AS)=true
 A3:bu K "_law_whole" "_law_whole" C2 a.AC a.Bu
 C8:Binds K a.Bu ["_law_thing"] []
 C4:mg "_law_whole" = some (.ref a.AC)
 C6:zJ K (.ref a.AC)=true
 BD:bu K "is_whole" "is_whole" D3 a.Be a.Cc
 HZ:Binds K a.Cc ["thing"] []
 HM:mg "is_whole" = some (.ref a.Be)
 HU:zJ K (.ref a.Be)=true
 Bj:bu K "is_within" "is_within" Dw a.AO a.BK
 E6:Binds K a.BK ["thing", "least", "most"] []
 EZ:mg "is_within" = some (.ref a.AO)
 E3:zJ K (.ref a.AO)=true
 Ci:bu K "is_time" "is_time" EE a.BV a.Cz
 Gj:Binds K a.Cz ["thing"] []
 Gf:mg "is_time" = some (.ref a.BV)
 Gh:zJ K (.ref a.BV)=true
 BE:bu K "is_below" "is_below" D4 a.Bf a.Cd
 Ic:Binds K a.Cd ["number", "bound"] []
 HN:mg "is_below" = some (.ref a.Bf)
 HV:zJ K (.ref a.Bf)=true
 Ch:bu K "is_upto" "is_upto" ED a.BU a.Cy
 IF:Binds K a.Cy ["number", "bound"] []
 IA:mg "is_upto" = some (.ref a.BU)
 ID:zJ K (.ref a.BU)=true
 Bl:bu K "is_walker" "is_walker" Dx a.AQ a.BL
 E7:Binds K a.BL ["book", "thing"] []
 E1:mg "is_walker" = some (.ref a.AQ)
 E4:zJ K (.ref a.AQ)=true
 Cj:bu K "by_time" "by_time" DO a.BW a.CA
 Gk:Binds K a.CA ["book", "time"] []
 Gg:mg "by_time" = some (.ref a.BW)
 Gi:zJ K (.ref a.BW)=true
 Ed:bu K "ways" "ways" EC a.DK a.EN
 Jn:Binds K a.EN ["book"] []
 Jl:mg "ways" = some (.ref a.DK)
 Jm:zJ K (.ref a.DK)=true
 BB:bu K "other_at" "other_at" D2 a.Bc a.Ca
 FB:Binds K a.Ca ["book", "number", "walker"] []
 Fv:mg "other_at" = some (.ref a.Bc)
 Fy:zJ K (.ref a.Bc)=true
 BC:bu K "lone_row" "lone_row" C1 a.Bd a.Cb
 HY:Binds K a.Cb ["book", "walker", "number"] []
 HL:mg "lone_row" = some (.ref a.Bd)
 HR:zJ K (.ref a.Bd)=true
 CL:bu K "all_of" "all_of" Fp a.Cq a.C0
 Hn:Binds K a.C0 ["wishes"] []
 Hb:mg "all_of" = some (.ref a.Cq)
 Hh:zJ K (.ref a.Cq)=true
 Au:bu K "without_wish" "without_wish" CC a.Al a.AL
 FA:Binds K a.AL ["some", "number"] []
 Fu:mg "without_wish" = some (.ref a.Al)
 Fx:zJ K (.ref a.Al)=true
 CJ:bu K "splits" "splits" En a.Co a.CY
 Hl:Binds K a.CY ["some"] []
 G9:mg "splits" = some (.ref a.Co)
 Hf:zJ K (.ref a.Co)=true
 Bm:bu K "is_letter" "is_letter" Cl a.AR a.BM
 Hm:Binds K a.BM ["book", "thing"] []
 Ha:mg "is_letter" = some (.ref a.AR)
 Hg:zJ K (.ref a.AR)=true
 Ap:bu K "first_givings" "first_givings" wF a.Ai a.Ax
 Dt:Binds K a.Ax ["book", "sender", "since"] []
 Dq:mg "first_givings" = some (.ref a.Ai)
 Dr:zJ K (.ref a.Ai)=true
 Ak:bu K "earliest_times" "earliest_times" BY a.Ag a.At
 EI:Binds K a.At ["book", "sender", "since"] []
 EG:mg "earliest_times" = some (.ref a.Ag)
 EH:zJ K (.ref a.Ag)=true
 BF:bu K "earliest" "earliest" wU a.Bg a.Ce
 Id:Binds K a.Ce ["book", "letter"] []
 HP:mg "earliest" = some (.ref a.Bg)
 HW:zJ K (.ref a.Bg)=true
 AY:bu K "still_open" "still_open" wX a.AA a.Bt
 Ex:Binds K a.Bt ["book", "wishes", "stretch", "walker", "some"] []
 Et:mg "still_open" = some (.ref a.AA)
 Ev:zJ K (.ref a.AA)=true
 Dl:bu K "least" "least" CN a.CO a.DP
 Jg:Binds K a.DP ["book", "stretch", "walker", "some", "following"] []
 Je:mg "least" = some (.ref a.CO)
 Jf:zJ K (.ref a.CO)=true
 CK:bu K "row_of" "row_of" CU a.Cp a.CZ
 IU:Binds K a.CZ ["book", "wishes", "stretch", "walker", "following"] []
 IQ:mg "row_of" = some (.ref a.Cp)
 IS:zJ K (.ref a.Cp)=true
 Av:bu K "least_prices" "least_prices" wL a.Am a.AM
 FC:Binds K a.AM ["book", "wishes"] []
 Fw:mg "least_prices" = some (.ref a.Am)
 Fz:zJ K (.ref a.Am)=true
 AZ:bu K "best_split" "best_split" Cu a.AB a.Az
 GH:Binds K a.Az ["kept", "given", "some"] []
 Gv:mg "best_split" = some (.ref a.AB)
 GB:zJ K (.ref a.AB)=true
 Cg:bu K "tree_by" "tree_by" wC a.BT a.Cw
 IE:Binds K a.Cw ["book", "sender", "since", "wishes", "prices"] []
 Iz:mg "tree_by" = some (.ref a.BT)
 IB:zJ K (.ref a.BT)=true
 CI:bu K "spread" "spread" Ck a.Cn a.CW
 IT:Binds K a.CW ["book", "sender", "since", "wishes"] []
 IO:mg "spread" = some (.ref a.Cn)
 IR:zJ K (.ref a.Cn)=true
 A4:bu K "_law_times" "_law_times" wY a.AD a.Bv
 GI:Binds K a.Bv ["_law_book_here_here", "_law_sender_here", "_law_since_here"] []
 Gw:mg "_law_times" = some (.ref a.AD)
 GC:zJ K (.ref a.AD)=true
 AJ:bu K "_law_wishes" "_law_wishes" wN a.Ar a.Ba
 FZ:Binds K a.Ba ["_law_purse_here_here", "_law_book_here_here", "_law_most"] []
 FV:mg "_law_wishes" = some (.ref a.Ar)
 FX:zJ K (.ref a.Ar)=true
 Ah:bu K "_law_tree_times" "_law_tree_times" xp a.Af a.Ao
 Ey:Binds K a.Ao ["_law_book_here_here", "_law_sender_here", "_law_since_here", "_law_steps"] []
 Eu:mg "_law_tree_times" = some (.ref a.Af)
 Ew:zJ K (.ref a.Af)=true
 AK:bu K "_law_served" "_law_served" wj a.As a.Bb
 F3:Binds K a.Bb ["_law_times_here_here", "_law_wishes_here_here"] []
 FW:mg "_law_served" = some (.ref a.As)
 FY:zJ K (.ref a.As)=true
 Bs:bu K "_law_bars" "_law_bars" wB a.AX a.BS
 Hr:Binds K a.BS ["_law_book_here_here", "_law_letter_here", "_law_numbers"] []
 He:mg "_law_bars" = some (.ref a.AX)
 Hk:zJ K (.ref a.AX)=true
 A9:bu K "_law_never" "_law_never" wy a.AI a.BA
 GM:Binds K a.BA ["_law_book_here_here", "_law_sender_here", "_law_since_here", "_law_wishes_here_here"] []
 GA:mg "_law_never" = some (.ref a.AI)
 GG:zJ K (.ref a.AI)=true
 Bq:bu K "_law_many" "_law_many" wJ a.AV a.BQ
 BJ:Binds K a.BQ ["_law_book_here", "_law_sender", "_law_since", "_law_wishes_here"] []
 BH:mg "_law_many" = some (.ref a.AV)
 BI:zJ K (.ref a.AV)=true
 Aw:bu K "_law_no_more" "_law_no_more" CD a.An a.AN
 DA:Binds K a.AN ["_law_one", "_law_other"] []
 Dy:mg "_law_no_more" = some (.ref a.An)
 Dz:zJ K (.ref a.An)=true
 A8:bu K "_law_parts" "_law_parts" wZ a.AH a.Bz
 GL:Binds K a.Bz ["_law_book_here", "_law_sender", "_law_since", "_law_wishes_here", "_law_place", "_law_all"] []
 Gz:mg "_law_parts" = some (.ref a.AH)
 GF:zJ K (.ref a.AH)=true
 A6:bu K "_law_right" "_law_right" xq a.AF a.Bx
 GK:Binds K a.Bx ["_law_book_here", "_law_purse_here"] []
 Gy:mg "_law_right" = some (.ref a.AF)
 GE:zJ K (.ref a.AF)=true
 Fa:bu K "law" "law" Gc a.EA a.Gm
 Js:Binds K a.Gm ["_law_script"] []
 Jr:mg "law" = some (.ref a.EA)
 WY:zJ K (.ref a.EA)=true
 MR:mg "all" = none
 KC:mg "bool" = none
 dw:mg "enumerate" = none
 MQ:mg "int" = none
 aZ:mg "isinstance" = none
 bA:mg "len" = none
 nK:mg "list" = none
 sX:mg "max" = none
 pX:mg "min" = none
 cz:mg "range" = none
 rJ:mg "reversed" = none
 pW:mg "sorted" = none
 iB:mg "tuple" = none
 Ud:PySem.W.codeHdIn K a.tC a.tP=true
 Ue:a.Az.code=.ref a.tC
 pU:mg "LAST_TIME" = some (.int 1000000000 p6)
 fc:mg "MOST_SPREAD_WALKERS" = some (.int 8 ff)
 eV:mg "MOST_SPREAD_MEETINGS" = some (.int 24 eX)
section
variable (P:Program) (w:World) {K:PySem.W.Frag}{mg:Str->Option Value} (base:Heap) {a:Ad}{ak:Tok}{ai:Tok}{ah:Tok}
theorem DW:ay ["_law_script_here", "_law_k_here", "_law_cell", "_law_left"] ["_law_script_here", "_law_k_here"] (aq wV):=L2.bw
theorem FS (T:Tx K mg a ak ai ah)(B:aW mg base):aT P w K mg base cB 1 a.AG a.By ["_law_script_here", "_law_k_here"] (Lj K):=by
 refine T.A7.ok DW (λvs H Q E h=>?_) (λbK A outer s H vs Q E hr h=>?_)
 ·obtain ⟨a,ns,k,rfl,_⟩:=h;rfl
 ·have nd:=DW.nd;have hu:=hr.units;obtain ⟨sa,ns,k,rfl,hS,hk,q⟩:=h;refine bU ?_;intro Y
  let B0:Bk Y ((aj wV).drop 5):=⟨_,(xM (xk (xZ (wA (xK (xL (pv 3) (xL (xg fD (xg xt (xg xt (xg dD (pv 2) xO) (xg dD (pv 1) xO)) xO) xO) (xL xO xU rfl) rfl) rfl))))))⟩
  let B1:Bk Y ((aj wV).drop 3):=⟨_,(xM (xf (xr (xi jf (pv 2) xO (aB _)) (xM (xk (xb (i:=3) nd rfl rfl (xg cF (cJ wd xO) (pv 2))))) xh) (xf (xr (xi MC (pv 2) (xg gG xO xO) (aB _)) (xM (xk (xb (i:=3) nd rfl rfl (pv 2)))) xh) B0.bl)))⟩
  let B2:Bk Y ((aj wV).drop 1):=⟨_,(xM (xf (xr (xi jf (pv 1) (xc (xX rfl) (by rfl) T.bA PySem.boot_len (xK (xL (pv 0) xU rfl))) (aB _)) (xM (xk (xb (i:=2) nd rfl rfl (xY (xW rfl) (pv 0) (pv 1) (λ_ _=>rfl))))) xh) (xf (xb (i:=3) nd rfl rfl xO) B1.bl)))⟩
  refine ⟨_,(xM (xf (xb (i:=2) nd rfl rfl xO) B2.bl)),?_⟩;have c18:rP 10 18:=⟨by decide,by decide,by decide⟩;have s3:3<=sizeLine:=by rw [sizeLine_eq];decide
  have fin:∀ (x y:Int) p,H p=none->Q (.ref p) (upd H p (.lst [.int x,.int y,.int 0])):=λx y p hp=>q p _ hp ⟨x,y,0,xN⟩ (xP hp);have c69:∀ x:Int,uX x 69:=λx=>.inr ⟨by decide,by decide⟩;have V3:∀ x:Int,uX x 40503:=λx=>.inr ⟨by decide,by decide⟩;refine (zr rfl (zr rfl ⟨sa,zr rfl ⟨.inl hS,aG rfl rfl (zr rfl (kZ (fun σ H1=>∃ c:Int,σ=[some (.ref sa),some (.int k),some (.int c),none]/\H=H1) ?_ (λc k0=>?_) (λc=>⟨0,rfl,rfl⟩)))⟩⟩))
  ·rintro σ H1 ⟨c,rfl,rfl⟩;refine (zr rfl (aG rfl rfl (zr rfl (kZ (fun σ H1=>∃ d:Int,σ=[some (.ref sa),some (.int k),some (.int c),some (.int d)]/\H=H1) ?_ (λz k0=>?_) (λz=>⟨0,rfl,rfl⟩)))))
   ·rintro σ H1 ⟨d,rfl,rfl⟩;refine (zr rfl (aG rfl rfl ⟨c18,aG rfl rfl (zr rfl (kZ (fun σ H1=>∃ d:Int,σ=[some (.ref sa),some (.int k),some (.int c),some (.int d)]/\H=H1) ?_ (λz k0=>(zr rfl (k0 _ _ ⟨c,rfl,rfl⟩))) (λz=>⟨d,rfl,rfl⟩)))⟩));rintro σ H1 ⟨d,rfl,rfl⟩;exact (zr rfl (zr rfl (aG rfl rfl ⟨c69 _,zr rfl (aG rfl rfl ⟨V3 _,aG rfl rfl (aG rfl rfl (aG rfl rfl ⟨(by show (0:Int) < 2147483647;decide),s3,fin _ _⟩))⟩)⟩)))
   ·exact (zr rfl (zr rfl (aG rfl rfl (k0 _ _ (zr rfl rfl)))))
  ·have ZI:k < ns.length:=by
    have:=of_decide_eq_true c;rw [zA] at this;omega
   exact (zr rfl (zr rfl ⟨sa,_,aG rfl rfl ⟨hS,xo (v:=V.int ns[k]) (by simp [ZI]),k0 _ _ (zr rfl rfl)⟩⟩))
theorem Ei:ay ["_law_purse_here_here", "_law_many_here", "_law_digit", "_law_mixed"] ["_law_purse_here_here", "_law_many_here"] (aq wu):=L2.bw
theorem wD (T:Tx K mg a ak ai ah)(B:aW mg base):aT P w K mg base cB 1 a.AT a.BO ["_law_purse_here_here", "_law_many_here"] (Nq):=by
 refine T.Bo.ok Ei (λvs H Q E h=>?_) (λbK A outer s H vs Q E hr h=>?_)
 ·obtain ⟨p,n,rfl,_⟩:=h;rfl
 ·have nd:=Ei.nd;have hu:=hr.units;obtain ⟨p,n,rfl,n0,n1,⟨x,y,z,hp⟩,q⟩:=h;refine bU ?_;intro Y
  let B0:Bk Y ((aj wu).drop 3):=⟨_,(xM (xf (xb (i:=3) nd rfl rfl (xg fD (xg xt (xg xt (xg dD (pv 3) (pv 3)) (xg dD (xY (xW rfl) (pv 0) xO (λ_ _=>rfl)) xO)) (xY (xW rfl) (pv 0) xO (λ_ _=>rfl))) xO)) (xk (xZ (xg fD (xg we (xg fD (xg dD (pv 3) xO) xO) xO) (pv 1))))))⟩
  let B1:Bk Y ((aj wu).drop 2):=⟨_,(xM (xf (xb (i:=3) nd rfl rfl (xg fD (xg dD (xg xt (xY (xW rfl) (pv 0) xO (λ_ _=>rfl)) (xg dD (xY (xW rfl) (pv 0) xO (λ_ _=>rfl)) xO)) xO) xO)) B0.bl))⟩
  let B2:Bk Y (nb (aj wu) 0):=⟨_,(xM (xf (xb (i:=2) nd rfl rfl (xg fD (xY (xW rfl) (pv 0) xO (λ_ _=>rfl)) (pv 1))) (xf (wc (xg we (xY (xW rfl) (pv 0) xO (λ_ _=>rfl)) (pv 1)) (iT (pv 0) xO set_list)) (xk (xZ (pv 2))))))⟩
  refine ⟨_,(xM (xf (xr (xi gf (xY (xW rfl) (pv 0) xO (λ_ _=>rfl)) xO (aB _)) B2.ps xh) (xf (Lx (pv 0) xO (J9 rfl) xO N7 set_list) B1.bl))),?_⟩;have hS:aJ K H p _:=aJ.of hp;have cm:∀ x c:Int,-(2 ^ 64) < c->c < 2 ^ 64->uX x c:=λx c h h'=>.inr ⟨h,h'⟩;refine (zr rfl ⟨p,_,aG rfl rfl ⟨hS,rfl,aG rfl rfl (zr rfl (dP (λh1=>?_) λh1=>?_))⟩⟩)
  ·refine (zr rfl ⟨p,_,aG rfl rfl ⟨hS,rfl,zr rfl (aG rfl rfl ⟨n0,?_⟩)⟩⟩);refine (zr rfl ⟨p,_,aG rfl rfl ⟨hS,rfl,zr rfl (aG rfl rfl ⟨⟨n0,n1⟩,zr rfl ⟨p,_,_,0,rfl,rfl,hp,rfl,?_⟩⟩)⟩⟩);exact (zr rfl (q _ _ (yr _ (by omega)) (yc _ n0) ⟨bV.set,_,_,_,xN⟩))
  ·refine (zr rfl ⟨p,_,aG rfl rfl ⟨hS,rfl,aG rfl rfl ⟨p,_,_,2,rfl,rfl,hp,rfl,?_⟩⟩⟩);have h2:(upd H p (HO.lst ([V.int x,V.int y,V.int z].set 2 (.int (z + 1))))) p=some (.lst [V.int x,V.int y,V.int (z + 1)]):=xN;have b2:bV p H (upd H p (HO.lst ([V.int x,V.int y,V.int z].set 2 (.int (z + 1))))):=bV.set;generalize upd H p (HO.lst ([V.int x,V.int y,V.int z].set 2 (.int (z + 1))))=H2 at h2 b2 ⊢;have Sk:aJ K H2 p _:=aJ.of h2;have big:(2147483647:Int) < 2 ^ 64:=by decide
   have low:-(2:Int) ^ 64 < 0:=by decide
   have pos:(0:Int) < 2147483647:=by decide
   refine (zr rfl ⟨p,_,aG rfl rfl ⟨Sk,rfl,zr rfl ⟨p,_,aG rfl rfl ⟨Sk,rfl,aG rfl rfl ⟨cm _ _ (by decide) (by decide),aG rfl rfl (aG rfl rfl ⟨cm _ _ (by decide) (by decide),aG rfl rfl ⟨(by show (0:Int) < 2147483647;decide),?_⟩⟩)⟩⟩⟩⟩⟩);have m0:=yr ((y + (z + 1) * 362437) * 48271) (show (2147483647:Int)≠0 by decide);have m1:=yc ((y + (z + 1) * 362437) * 48271) pos;refine (zr rfl (zr rfl (aG rfl rfl ⟨.inl ⟨Int.lt_of_lt_of_le low m0,Int.lt_trans m1 big⟩,zr rfl ⟨p,_,aG rfl rfl ⟨Sk,rfl,aG rfl rfl ⟨cm _ _ (by decide) (by decide),aG rfl rfl (zr rfl ⟨p,_,aG rfl rfl ⟨Sk,rfl,aG rfl rfl (aG rfl rfl ⟨(by show (0:Int) < 2147483629;decide),?_⟩)⟩⟩)⟩⟩⟩⟩)));refine (zr rfl (aG rfl rfl ⟨cm _ _ (by decide) (by decide),aG rfl rfl ⟨(by show (0:Int) < 2147483563;decide),aG rfl rfl ⟨⟨by decide,by decide⟩,zr rfl (aG rfl rfl ⟨n0,?_⟩)⟩⟩⟩));exact q _ _ (yr _ (by omega)) (yc _ n0) ⟨b2,_,_,_,h2⟩
theorem EX:ay ["_law_purse_here_here", "_law_high"] ["_law_purse_here_here"] (aq C3):=L2.bw
theorem G8 (T:Tx K mg a ak ai ah)(B:aW mg base):aT P w K mg base cB 2 a.Bh a.Cf ["_law_purse_here_here"] (P5):=by
 have Aa:=wD P w base T B;refine T.BG.ok EX (λvs H Q E h=>?_) (λbK A outer s H vs Q E hr h=>?_)
 ·obtain ⟨p,rfl,_⟩:=h;rfl
 ·have nd:=EX.nd;have hu:=hr.units;obtain ⟨p,rfl,hp,q⟩:=h;refine bU ?_;intro Y
  let B0:Bk Y ((aj C3).drop 1):=⟨_,(xM (xk (xZ (xg fD (xg xt (xg dD (pv 1) xO) (xT Aa (hr.mono (by decide)) rfl T.Ab T.Ac T.Ae .nil av (xK (xL (pv 0) (xL xO xU rfl) rfl)))) (xg xt (xg gG xO xO) xO)))))⟩
  refine ⟨_,(xM (xf (xb (i:=1) nd rfl rfl (xT Aa (hr.mono (by decide)) rfl T.Ab T.Ac T.Ae .nil av (xK (xL (pv 0) (xL xO xU rfl) rfl)))) B0.bl)),?_⟩;refine (zr rfl ⟨p,zr rfl ⟨by decide,by decide,hp,λd H1 d0 d1 g1=>(zr rfl (aG rfl rfl ⟨.inr ⟨by decide,by decide⟩,zr rfl ⟨p,zr rfl ⟨by decide,by decide,g1.2,λe H2 e0 e1 g2=>(aG rfl rfl (aG rfl rfl ⟨⟨by decide,by decide,by decide⟩,aG rfl rfl (aG rfl rfl ⟨(by show (0:Int) < 10 ^ Int.toNat 9 + 1;decide),?_⟩)⟩))⟩⟩⟩))⟩⟩);have e9:(10:Int) ^ Int.toNat 9 + 1=1000000001:=by decide
  rw [e9];exact q _ _ (yr _ (by decide)) (Int.lt_add_one_iff.mp (yc _ (by decide))) (g1.trans g2)
theorem DU:ay ["_law_purse_here_here", "_law_walkers", "_law_rooms_here", "_law_walker_here", "_law_room"] ["_law_purse_here_here", "_law_walkers"] (aq wW):=L2.bw
theorem FQ (T:Tx K mg a ak ai ah)(B:aW mg base):aT P w K mg base cB 2 a.AE a.Bw ["_law_purse_here_here", "_law_walkers"] (Li):=by
 have Aa:=wD P w base T B;refine T.A5.ok DU (λvs H Q E h=>?_) (λbK A outer s H vs Q E hr h=>?_)
 ·obtain ⟨p,n,rfl,_⟩:=h;rfl
 ·have nd:=DU.nd;have hu:=hr.units;obtain ⟨p,n,rfl,hn,hp,q⟩:=h;refine bU ?_;intro Y
  let B0:Bk Y ((nb (aj wW) 1).drop 1):=⟨_,(xM (xf (xr (xi bX (pv 4) xO (aB _)) (xM (xk (xb (i:=4) nd rfl rfl (xT Aa (hr.mono (by decide)) rfl T.Ab T.Ac T.Ae .nil av (xK (xL (pv 0) (xL xO xU rfl) rfl)))))) xh) (xk (wl (dN zV zc zd wE (pv 2) (xK (xL (pv 4) xU rfl)))))))⟩
  let B1:Bk Y (nb (aj wW) 1):=⟨_,(xM (xf (xb (i:=4) nd rfl rfl (xg we (xT Aa (hr.mono (by decide)) rfl T.Ab T.Ac T.Ae .nil av (xK (xL (pv 0) (xL xO xU rfl) rfl))) xO)) B0.bl))⟩
  let B2:Bk Y ((aj wW).drop 1):=⟨_,(xM (xf (wQ PassesOwn.never rfl (b9 rfl T.cz (xK (xL (pv 1) xU rfl))) (xV (i:=3) nd rfl rfl) B1.ps) (xk (xZ (iU (gh) (by rfl) T.iB yV (xK (xL (pv 2) xU rfl)))))))⟩
  refine ⟨_,(xM (xf (xb (i:=2) nd rfl rfl (wA cj)) B2.bl)),?_⟩;have line:1001<=sizeLine:=by rw [sizeLine_eq];decide
  refine ⟨zY _,λl hl=>?_⟩;have WC:=hp.ne hl;refine (zr rfl (zr rfl ⟨by omega,by omega,?_⟩));refine (let W1:IV:=λi σ H2=>∃ v3 v4 rs,σ=[some (.ref p),some (.int n),some (.ref l),v3,v4]/\H2 l=some (.lst (List.map V.int rs))/\rs.length=i/\(∀ r∈rs,(0:Int)<=r/\r<=99)/\Go p H H2;dQ (lo:=0) (n:=n) W1)
   ⟨_,_,[],rfl,xN,rfl,(λ_ z=>nomatch z),(Go.refl hp).new hl⟩ ?_ ?_
  ·rintro i σ H2 hi ⟨v3,v4,rs,rfl,h2,hlen,hr,go⟩;refine (zr rfl ⟨p,zr rfl ⟨by decide,by decide,go.2,λd H3 d0 d1 g3=>(aG rfl rfl ⟨⟨by decide,by decide⟩,?_⟩)⟩⟩);refine (zr rfl ⟨rfl,zr rfl (kZ (fun σ H4=>∃ x:Int,σ=[some (.ref p),some (.int n),some (.ref l),some (.int (0 + (i:Int))),some (.int x)]/\0<=x/\x<=99/\Go p H2 H4) ?_ (λc k0=>(zr rfl ⟨p,zr rfl ⟨by decide,by decide,g3.2,λe H4 e0 e1 g4=>k0 _ _ ⟨e,rfl,e0,by omega,g3.trans g4⟩⟩⟩)) (λc=>(zr rfl ⟨by omega,by omega,g3⟩)))⟩);rintro σ H4 ⟨x,rfl,x0,x1,g4⟩;have h4:=g4.1 l _ WC h2;refine (zr rfl ⟨.inl ⟨rfl,_,aJ.of h4⟩,zr rfl ⟨l,aG rfl rfl ⟨h4,by rw [zA];omega,_,_,rs++[x],rfl,by rw [xN,zF];rfl,by simp [hlen],λr uG=>?_,?_⟩⟩⟩)
   ·rcases zQ.mp uG with h | h
    ·exact hr r h
    ·cases zN.mp h;exact ⟨x0,x1⟩
   ·have g2:=go.trans g4;refine ⟨λb u nb e=>?_,?_⟩
    ·rw [xR (xQ e hl)];exact g2.1 b u nb e
    ·obtain ⟨a,b,c,e⟩:=g2.2;exact ⟨a,b,c,by rw [xR WC.symm];exact e⟩
  ·rintro σ H2 ⟨v3,v4,rs,rfl,h2,hlen,hr,go⟩;exact (zr rfl ⟨l,zr rfl (.inl ⟨aJ.of h2,λt ht=>q t rs _ (go.new ht) xN hlen hr⟩)⟩)
theorem Ej:ay ["_law_purse_here_here", "_law_way"] ["_law_purse_here_here"] (aq ww):=L2.bw
theorem Gr (T:Tx K mg a ak ai ah)(B:aW mg base):aT P w K mg base cB 2 a.AU a.BP ["_law_purse_here_here"] (Nr):=by
 have Aa:=wD P w base T B;refine T.Bp.ok Ej (λvs H Q E h=>?_) (λbK A outer s H vs Q E hr h=>?_)
 ·obtain ⟨p,rfl,_⟩:=h;rfl
 ·have nd:=Ej.nd;have hu:=hr.units;obtain ⟨p,rfl,hp,q⟩:=h;refine bU ?_;intro Y
  let B0:Bk Y ((aj ww).drop 3):=⟨_,(xM (xk (xZ (xg xt xO (xT Aa (hr.mono (by decide)) rfl T.Ab T.Ac T.Ae .nil av (xK (xL (pv 0) (xL (xg dD xO (xg gG xO xO)) xU rfl) rfl)))))))⟩
  let B1:Bk Y ((aj ww).drop 2):=⟨_,(xM (xf (xr (xi bX (pv 1) xO (aB _)) (xM (xk (xZ (xg xt xO (xT Aa (hr.mono (by decide)) rfl T.Ab T.Ac T.Ae .nil av (xK (xL (pv 0) (xL xO xU rfl) rfl))))))) xh) B0.bl))⟩
  let B2:Bk Y ((aj ww).drop 1):=⟨_,(xM (xf (xr (xi jf (pv 1) xO (aB _)) (xM (xk (xZ (xY (xW rfl) (wA (xK (xL xO (xL xO (xL xO xU rfl) rfl) rfl))) (pv 1) (λ_ _=>rfl))))) xh) B1.bl))⟩
  refine ⟨_,(xM (xf (xb (i:=1) nd rfl rfl (xT Aa (hr.mono (by decide)) rfl T.Ab T.Ac T.Ae .nil av (xK (xL (pv 0) (xL xO xU rfl) rfl)))) B2.bl)),?_⟩;have s3:3<=sizeLine:=by rw [sizeLine_eq];decide
  refine (zr rfl ⟨p,zr rfl ⟨by decide,by decide,hp,λd H1 d0 d1 g1=>(zr rfl (aG rfl rfl (zr rfl (dP (λh1=>?_) λh1=>?_))))⟩⟩)
  ·obtain ⟨v,hv,v0,v1⟩:∃ v:Int,dS [V.int 0,V.int 1,V.int 1] d=some (V.int v)/\0<=v/\v<=1:=by
    obtain rfl | rfl | rfl:d=0\/d=1\/d=2:=by omega
    ·exact ⟨0,rfl,by decide,by decide⟩
    ·exact ⟨1,rfl,by decide,by decide⟩
    ·exact ⟨1,rfl,by decide,by decide⟩
   exact ⟨s3,λl hl=>(zr rfl (bR xN hv (q _ _ v0 (by omega) (g1.new hl))))⟩
  ·refine (zr rfl ⟨rfl,zr rfl (dP (λh2=>?_) λh2=>?_)⟩)
   ·exact (zr rfl ⟨p,zr rfl ⟨by decide,by decide,g1.2,λe H2 e0 e1 g2=>(aG rfl rfl (q _ _ (by omega) (by omega) (g1.trans g2)))⟩⟩)
   ·have e16:(16:Int) * 10 ^ Int.toNat 6=16000000:=by decide
    refine (zr rfl (aG rfl rfl ⟨⟨by decide,by decide,by decide⟩,aG rfl rfl ⟨.inl ⟨by decide,by decide⟩,p,zr rfl ⟨by decide,by decide,g1.2,λe H2 e0 e1 g2=>(aG rfl rfl (q _ _ (by omega) (by rw [e16] at e1;omega) (g1.trans g2)))⟩⟩⟩))
theorem CT:ay ["_law_purse_here_here", "_law_walkers", "_law_most", "_law_found", "_law_when", "_law_busy", "_law_k_here", "_law_one_here", "_law_other_here", "_law_gap", "_law_passed", "_law_late"] ["_law_purse_here_here", "_law_walkers", "_law_most"] (aq xl):=L2.bw
theorem EF (T:Tx K mg a ak ai ah)(B:aW mg base):aT P w K mg base cB 3 a.Aj a.Ay ["_law_purse_here_here", "_law_walkers", "_law_most"] (qw):=by
 have Aa:=wD P w base T B;have HE:=Gr P w base T B;refine T.Aq.ok CT (λvs H Q E h=>?_) (λbK A outer s H vs Q E hr h=>?_)
 ·obtain ⟨p,w,n,rfl,_⟩:=h;rfl
 ·have nd:=CT.nd;have hu:=hr.units;obtain ⟨p,w,n,rfl,hn,w9,hw,hp,q⟩:=h;refine bU ?_;intro Y
  let B0:Bk Y ((aj xl).drop 6):=⟨_,(xM (xk (xZ (iU (gh) (by rfl) T.iB yV (xK (xL (dh (own:=["_law_when", "_law_one_here", "_law_other_here", "_law_passed"]) (caps:=[11]) rfl (show bq ["_law_when", "_law_one_here", "_law_other_here", "_law_passed"] [11] ["_law_purse_here_here", "_law_walkers", "_law_most", "_law_found", "_law_when", "_law_busy", "_law_k_here", "_law_one_here", "_law_other_here", "_law_gap", "_law_passed", "_law_late"] (aq xl) _ from L2.nE) (wf rfl (xc (kG) (by rfl) T.pW PyProof.Rows.boot_sorted (xK (xL (pv 3) xU rfl)))) (λ_ _ _ _=>(xv (n:=4) rfl rfl (xS (xV (i:=0) (show List.Nodup (["_law_when", "_law_one_here", "_law_other_here", "_law_passed", "_law_late"]:List Str) from by decide +kernel) rfl rfl) (xS (xV (i:=1) (show List.Nodup (["_law_when", "_law_one_here", "_law_other_here", "_law_passed", "_law_late"]:List Str) from by decide +kernel) rfl rfl) (xS (xV (i:=2) (show List.Nodup (["_law_when", "_law_one_here", "_law_other_here", "_law_passed", "_law_late"]:List Str) from by decide +kernel) rfl rfl) (xS (xV (i:=3) (show List.Nodup (["_law_when", "_law_one_here", "_law_other_here", "_law_passed", "_law_late"]:List Str) from by decide +kernel) rfl rfl) xu)))))) (λ_ _ _ _=>dZ) (λ_ _ _ _=>(xz (xK (xL (pv 1) (xL (pv 2) (xL (xg xt (pv 0) (pv 4)) (xL (pv 3) xU rfl) rfl) rfl) rfl))))) xU rfl))))))⟩
  let B1:Bk Y ((aj xl).drop 5):=⟨_,(xM (xf (xr (@PW.pt _ _ _ (gE (xi bX (xT Aa (hr.mono (by decide)) rfl T.Ab T.Ac T.Ae .nil av (xK (xL (pv 0) (xL xO xU rfl) rfl))) xO (aB _)) (fR (xi (JA hu) (pv 3) (wA cj) (aB _))))) (xM (xk (xb (i:=11) nd rfl rfl (xg cF (xg gG xO xO) (pv 4))))) xh) B0.bl))⟩
  let B2:Bk Y ((nb (aj xl) 3).drop 9):=⟨_,(xM (xk (wl (dN zV zc zd wE (pv 3) (xK (xL (xz (xK (xL (pv 4) (xL (xc (i6 rfl) (by rfl) T.pX yd (xK (xL (pv 7) (xL (pv 8) xU rfl) rfl))) (xL (xc (fW rfl) (by rfl) T.sX PyProof.Rows.boot_max (xK (xL (pv 7) (xL (pv 8) xU rfl) rfl))) (xL (pv 10) xU rfl) rfl) rfl) rfl))) xU rfl))))))⟩
  let B3:Bk Y (nb (nb (aj xl) 3) 8):=⟨_,(xM (xk (xb (i:=10) nd rfl rfl (xg xt xO (xT Aa (hr.mono (by decide)) rfl T.Ab T.Ac T.Ae .nil av (xK (xL (pv 0) (xL xO xU rfl) rfl)))))))⟩
  let B4:Bk Y ((nb (aj xl) 3).drop 8):=⟨_,(xM (xf (xr (xi bX (xT Aa (hr.mono (by decide)) rfl T.Ab T.Ac T.Ae .nil av (xK (xL (pv 0) (xL xO xU rfl) rfl))) xO (aB _)) B3.ps xh) B2.bl))⟩
  let B5:Bk Y ((nb (aj xl) 3).drop 7):=⟨_,(xM (xf (xb (i:=10) nd rfl rfl (xg xt xO (xg we (xT Aa (hr.mono (by decide)) rfl T.Ab T.Ac T.Ae .nil av (xK (xL (pv 0) (xL xO xU rfl) rfl))) xO))) B4.bl))⟩
  let B6:Bk Y ((nb (aj xl) 3).drop 4):=⟨_,(xM (xf (xr (xi gf (pv 9) xO (aB _)) (xM (xk (xb (i:=5) nd rfl rfl (wA cj)))) xh) (xf (xb (i:=4) nd rfl rfl (xg xt (pv 4) (pv 9))) (xf (xb (i:=5) nd rfl rfl (xg qM (pv 5) (wA (xK (xL (pv 7) (xL (pv 8) xU rfl) rfl))))) B5.bl))))⟩
  let B7:Bk Y ((nb (aj xl) 3).drop 3):=⟨_,(xM (xf (xr (@PW.pt _ _ _ (cU (xi (cu rfl) (pv 7) (pv 5) rfl) (cC (xi (cu rfl) (pv 8) (pv 5) rfl)))) (xM (xk (xb (i:=9) nd rfl rfl (xc (fW rfl) (by rfl) T.sX PyProof.Rows.boot_max (xK (xL xO (xL (pv 9) xU rfl) rfl)))))) xh) B6.bl))⟩
  let B8:Bk Y ((nb (aj xl) 3).drop 1):=⟨_,(xM (xf (xb (i:=8) nd rfl rfl (xg fD (xg xt (xg xt (pv 7) xO) (xT Aa (hr.mono (by decide)) rfl T.Ab T.Ac T.Ae .nil av (xK (xL (pv 0) (xL (xg cF (pv 1) xO) xU rfl) rfl)))) (pv 1))) (xf (xb (i:=9) nd rfl rfl (xT HE (hr.mono (by decide)) rfl T.Hc T.Hi T.Ho .nil av (xK (xL (pv 0) xU rfl)))) B7.bl)))⟩
  let B9:Bk Y (nb (aj xl) 3):=⟨_,(xM (xf (xb (i:=7) nd rfl rfl (xT Aa (hr.mono (by decide)) rfl T.Ab T.Ac T.Ae .nil av (xK (xL (pv 0) (xL (pv 1) xU rfl) rfl)))) B8.bl))⟩
  let RJ:Bk Y ((aj xl).drop 2):=⟨_,(xM (xf (xb (i:=5) nd rfl rfl (wA cj)) (xf (wQ PassesOwn.never rfl (b9 rfl T.cz (xK (xL (pv 2) xU rfl))) (xV (i:=6) nd rfl rfl) B9.ps) (xf (xb (i:=11) nd rfl rfl xO) B1.bl))))⟩
  let B11:Bk Y ((aj xl).drop 1):=⟨_,(xM (xf (xb (i:=4) nd rfl rfl (xg xt xO (xg dD (xg we (xT Aa (hr.mono (by decide)) rfl T.Ab T.Ac T.Ae .nil av (xK (xL (pv 0) (xL xO xU rfl) rfl))) xO) (xT Aa (hr.mono (by decide)) rfl T.Ab T.Ac T.Ae .nil av (xK (xL (pv 0) (xL (xg gG xO xO) xU rfl) rfl)))))) RJ.bl))⟩
  refine ⟨_,(xM (xf (xb (i:=3) nd rfl rfl (wA cj)) B11.bl)),?_⟩;have line:1001<=sizeLine:=by rw [sizeLine_eq];decide
  have c7:rP 10 7:=⟨by decide,by decide,by decide⟩;have e7:(10:Int) ^ Int.toNat 7=10000000:=by decide
  have e64:(2:Int) ^ 64 > 1000:=by decide
  have uN:(2:Int) ^ 200 > 1000:=by decide
  refine ⟨zY _,λlf J0=>?_⟩;have KY:=hp.ne J0;have Pr:bB (upd H lf (.lst [])) p:=hp.new J0;refine (zr rfl ⟨p,zr rfl ⟨by decide,by decide,Pr,λd H1 d0 d1 g1=>(aG rfl rfl ⟨⟨by decide,by decide⟩,zr rfl (aG rfl rfl ⟨c7,?_⟩)⟩)⟩⟩);refine ⟨p,zr rfl ⟨by decide,by decide,g1.2,λd2 H2 d20 d21 g2=>(aG rfl rfl ⟨.inl ⟨by omega,by omega⟩,aG rfl rfl ?_⟩)⟩⟩;rw [e7] at d21;refine ⟨zY _,λlb Sf=>?_⟩;have XS:=g1.trans g2;have Ol:H2 lf=some (.lst []):=XS.1 lf _ KY xN;have XM:Go p H H2:=((Go.refl hp).new J0).trans XS;refine (zr rfl (zr rfl ⟨by omega,by omega,?_⟩));have Wj:1<=1 + d / 2 * d2/\1 + d / 2 * d2<=10000000:=by
   obtain h | h:d / 2=0\/d / 2=1:=by omega
   ·rw [h];omega
   ·rw [h];omega
  refine dQ (lo:=0) (n:=n) (Sz p lf w n H)
   ⟨_,_,_,_,_,_,lb,[],[],rfl,by rw [xR (xQ Ol Sf)];exact Ol,xN,(xQ Ol Sf).symm,XM.2.ne Sf,(λ_ z=>nomatch z),⟨(λ_ z=>nomatch z),.nil,(λ_ z=>nomatch z)⟩,rfl,by simp,Wj.1,(by have:=Wj.2;simpa using this),XM.new Sf⟩ ?_ ?_
  ·rintro i σ H3 hi ⟨v6,v7,v8,v9,v10,wh,lb,bs,fs,rfl,OB,XG,YR,Qq,Sn,F,JO,NX,RK,T8,go⟩;have w2:2<=w:=by omega
   refine (zr rfl (zr rfl ⟨p,w,rfl,by omega,by omega,go.2,λone H4 o0 o1 g4=>?_⟩));refine (zr rfl (aG rfl rfl (zr rfl (zr rfl (aG rfl rfl ⟨p,zr rfl ⟨by omega,by omega,g4.2,λx H5 x0 x1 g5=>(aG rfl rfl (zr rfl (aG rfl rfl ⟨by omega,?_⟩)))⟩⟩)))));have ot:=NI o0 o1 x0 x1;refine (zr rfl ⟨p,rfl,g5.2,λgap H6 aaf aae g6=>?_⟩);have Rj:=g4.trans (g5.trans g6);have VI:=Rj.1 lb _ Qq XG;have hf6:=Rj.1 lf _ KY OB;refine (zr rfl (zr rfl ⟨lb,zr rfl ⟨.inl (aJ.of VI),rfl,mq bs,zr rfl (UX (fun σ H7=>∃ gp:Int,σ=[some (.ref p),some (.int w),some (.int n),some (.ref lf),some (.int wh),some (.ref lb),some (.int (0 + (i:Int))),some (.int one),some (.int ((one + 1 + x) % w)),some (.int gp),v10,none]/\H6=H7/\0<=gp/\gp<=16000000/\(gp=0->one ∉ bs/\(one + 1 + x) % w ∉ bs)) ?_ (λc1 k0=>?_) (λc1 k0=>(zr rfl (zr rfl ⟨lb,zr rfl ⟨.inl (aJ.of VI),rfl,mq bs,zr rfl (o5 (λc2=>?_) (λc2=>?_))⟩⟩))))⟩⟩))
   rotate_left
   ·exact (zr rfl (mO rfl (k0 _ _ (zr rfl ⟨rfl,by split <;> omega,by split <;> omega,λz=>by split at z <;> omega⟩))))
   ·exact (zr rfl (mO rfl (k0 _ _ (zr rfl ⟨rfl,by split <;> omega,by split <;> omega,λz=>by split at z <;> omega⟩))))
   ·have c1':one ∉ bs:=of_decide_eq_false (o7.symm.trans c1);have c2':(one + 1 + x) % w ∉ bs:=of_decide_eq_false (o7.symm.trans c2);exact k0 _ _ ⟨gap,rfl,rfl,by omega,by omega,λ_=>⟨c1',c2'⟩⟩
   rintro σ H7 ⟨gp,rfl,rfl,gp0,gp1,hg⟩;refine (zr rfl (aG rfl rfl (zr rfl (kZ (fun σ H7=>∃ ly bz,σ=[some (.ref p),some (.int w),some (.int n),some (.ref lf),some (.int wh),some (.ref ly),some (.int (0 + (i:Int))),some (.int one),some (.int ((one + 1 + x) % w)),some (.int gp),v10,none]/\Go p H3 H7/\H7 ly=some (.lst (List.map V.int bz))/\ly≠p/\bz.length<=2 * i/\∀ z∈bs,gp=0->z∈bz) ?_ (λc3 k0=>⟨zY _,λln Xh=>k0 _ _ ⟨ln,[],rfl,Rj.new Xh,xN,Rj.2.ne Xh,zY _,λ_ _ z=>by have:=of_decide_eq_true c3;omega⟩⟩) (λc3=>⟨lb,bs,rfl,Rj,VI,Qq,NX,λ_ z _=>z⟩)))));rintro σ H7 ⟨ly,bz,rfl,gy,Zs,nyp,Zb,Mb⟩;have Z9:=gy.1 lf _ KY OB;refine (zr rfl (zr rfl (aG rfl rfl ?_)));refine (zr rfl (zr rfl (zr rfl ⟨by show 2<=sizeLine;omega,λl2 J1=>?_⟩)));have So:=gy.new (o:=HO.lst [V.int one,V.int ((one + 1 + x) % w)]) J1;have QK:=xP (o:=HO.lst [V.int one,V.int ((one + 1 + x) % w)]) J1 _ _ Zs;have XH:(upd H7 l2 (HO.lst [V.int one,V.int ((one + 1 + x) % w)])) l2=some (.lst [V.int one,V.int ((one + 1 + x) % w)]):=xN;generalize upd H7 l2 (HO.lst [V.int one,V.int ((one + 1 + x) % w)])=H8 at So QK XH ⊢;refine ⟨ly,l2,aG rfl rfl ⟨QK,XH,(by simp only [zA,zZ,yI];omega),λl3 QX=>?_⟩⟩;have WK:l3≠p:=So.2.ne QX;have YS:l3≠lf:=(xQ (So.1 lf _ KY OB) QX).symm;have VP:=So.new (o:=HO.lst (List.map V.int bz++[V.int one,V.int ((one + 1 + x) % w)])) QX;have Ri:(upd H8 l3 (HO.lst (List.map V.int bz++[V.int one,V.int ((one + 1 + x) % w)]))) l3=some (.lst (List.map V.int (bz++[one,(one + 1 + x) % w]))):=by rw [xN,zF];rfl
   generalize upd H8 l3 (HO.lst (List.map V.int bz++[V.int one,V.int ((one + 1 + x) % w)]))=H9 at VP Ri ⊢;refine (zr rfl ⟨p,zr rfl ⟨by decide,by decide,VP.2,λd4 ve d40 d41 nX=>(aG rfl rfl ⟨⟨by decide,by decide⟩,aG rfl rfl ?_⟩)⟩⟩);refine (zr rfl ⟨p,zr rfl ⟨by decide,by decide,nX.2,λd5 RH d50 d51 VR=>⟨rfl,zr rfl (kZ (fun σ tD=>∃ mm:Int,σ=[some (.ref p),some (.int w),some (.int n),some (.ref lf),some (.int (wh + gp)),some (.ref l3),some (.int (0 + (i:Int))),some (.int one),some (.int ((one + 1 + x) % w)),some (.int gp),some (.int mm),none]/\1<=mm/\mm<=99/\Go p H9 tD) ?_ (λc5 k0=>(zr rfl ⟨p,zr rfl ⟨by decide,by decide,VR.2,λd6 tD d60 d61 Sq=>(aG rfl rfl (k0 _ _ (zr rfl ⟨by omega,by omega,(nX.trans VR).trans Sq⟩)))⟩⟩)) (λc5=>(zr rfl ⟨by omega,by omega,nX.trans VR⟩)))⟩⟩⟩);rintro σ tD ⟨mm,rfl,YZ,YY,Sq⟩;have OF:=VP.trans Sq;have hz:=OF.1 lf _ KY OB;refine (zr rfl ⟨.inl ⟨rfl,_,aJ.of hz⟩,zr rfl (zr rfl (zr rfl (mO rfl (zr rfl (zr rfl (mO rfl (zr rfl ⟨by show 4<=sizeLine;omega,λt ht=>⟨lf,aG rfl rfl ⟨(by rw [xR (xQ hz ht)];exact hz),(by rw [zA];omega),?_⟩⟩⟩)))))))⟩);exact Sz.step KY J0 F JO (bs':=bz++[one,(one + 1 + x) % w]) (by simp only [zO,zZ,yI];omega) RK T8 hz (Sq.1 l3 _ WK Ri) YS WK (λa ha=>OF.aR go.2 _ _ (Sn a ha)) (go.trans OF) ht gp0 gp1 o0 o1 ot.1 ot.2.1 ot.2.2 YZ YY hg (λz Zr Zq=>zT _ (Mb z Zr Zq)) (by simp) (by simp)
  ·rintro σ H3 ⟨v6,v7,v8,v9,v10,wh,lb,bs,fs,rfl,OB,XG,YR,Qq,Sn,F,JO,NX,RK,T8,go⟩;have c9:rP 10 9:=⟨by decide,by decide,by decide⟩;have e9:(10:Int) ^ Int.toNat 9=1000000000:=by decide
   refine (zr rfl ⟨p,zr rfl ⟨by decide,by decide,go.2,λd8 H4 _ _ g4=>⟨rfl,zr rfl (UZ (fun σ H5=>∃ fZ:Int,(∃ v6 v7 v8 v9 v10,σ=[some (.ref p),some (.int w),some (.int n),some (.ref lf),some (.int wh),some (.ref lb),v6,v7,v8,v9,v10,some (.int fZ)])/\Go p H3 H5/\0<=fZ/\(fs≠[]->wh + fZ<=1000000000)) ?_ (λc k0=>?_) (λc=>⟨0,⟨_,_,_,_,_,rfl⟩,g4,zq _,λ_=>by omega⟩))⟩⟩⟩)
   rotate_left
   ·have XF:=g4.1 lf _ KY OB;refine (zr rfl ⟨zY _,λl4 Pw=>⟨lf,l4,zr rfl ⟨rfl,aJ.of (by rw [xR (xQ XF Pw)];exact XF),aJ.of xN,zr rfl (o5 (λc2=>?_) (λc2=>?_))⟩⟩⟩)
    ·exact (aG rfl rfl ⟨c9,zr rfl (aG rfl rfl (k0 _ _ ⟨_,⟨_,_,_,_,_,rfl⟩,g4.new Pw,by rw [e9];omega,λ_=>by rw [e9];omega⟩))⟩)
    ·exact k0 _ _ ⟨0,⟨_,_,_,_,_,rfl⟩,g4.new Pw,zq _,λ_=>by omega⟩
   rintro σ Hz ⟨fZ,⟨v6',v7',v8',v9',Yk,rfl⟩,gz,L0,L1⟩;have hz:=gz.1 lf _ KY OB;refine (zr rfl ⟨lf,fs.map (λa=>(a.1,a.2.row)),rfl,?_,(by rw [zA];omega),(λa ha=>?_),λD qs hD pq sq=>?_⟩)
   ·rw [yC];exact aJ.of hz
   ·obtain ⟨b,hb,rfl⟩:=zS.mp ha;exact ⟨gz.aR go.2 _ _ (Sn b hb),by intro z;cases z⟩
   obtain ⟨rs,UB,Ys,rfl⟩:=t9 pq sq;refine ⟨D,rfl,⟨_,aJ.of xN⟩,?_⟩;have Y6:rs.length=n:=by rw [UB.length_eq,JO]
   have Z5:(upd Hz D (HO.lst (List.map (λa=>V.ref a.1) (List.map (λa:Addr×M4=>(a.1,a.2.row)) rs)))) D=some (.lst (rs.map λa=>V.ref a.1)):=by rw [xN,yC];rfl
   have rD:=λa (ha:a∈rs)=>(bL.new (o:=HO.lst (List.map (λa=>V.ref a.1) (List.map (λa:Addr×M4=>(a.1,a.2.row)) rs))) hD) _ _ (gz.aR go.2 _ _ (Sn a (UB.mem_iff.mp ha)));have gD:=(go.trans gz).new (o:=HO.lst (List.map (λa=>V.ref a.1) (List.map (λa:Addr×M4=>(a.1,a.2.row)) rs))) hD;refine (let W2:IC:=λi τ acc H5=>∃ ps:List (Addr×M4),(∃ t0 t1 t2 t3,τ=[t0,t1,t2,t3,some (.int fZ)])/\acc=(ps.map λa=>V.ref a.1)/\(ps.map (·.2))=((rs.take i).map λa=>a.2.fZ fZ)/\ja H5 ps/\aA (upd Hz D (HO.lst (List.map (λa=>V.ref a.1) (List.map (λa:Addr×M4=>(a.1,a.2.row)) rs)))) H5;dR (K:=K) (a:=D) (xs:=rs.map λa=>V.ref a.1) W2)
    ?_ (by rw [zA];omega) ?_ ?_ ?_
   ·exact ⟨[],⟨_,_,_,_,rfl⟩,rfl,rfl,(λ_ z=>nomatch z),aA.refl _⟩
   ·rintro i τ acc H6 ⟨ps,⟨t0,t1,t2,t3,rfl⟩,rfl,Pz,rws,sm⟩;have:=congrArg List.length Pz;rw [zA,zA,zk] at this;exact ⟨by rw [zA];omega,sm.seq (aJ.of Z5)⟩
   ·rintro i x τ acc H5 C hx ⟨ps,⟨t0,t1,t2,t3,rfl⟩,rfl,Pz,rws,sm⟩ hC;obtain ⟨r,hr,rfl⟩:=wP hx;have f6:=sm _ _ (rD r (zD hr));refine (KU f6 (zr rfl (zr rfl (zr rfl (zr rfl (aG rfl rfl (zr rfl ⟨by show 4<=sizeLine;omega,λt ht=>hC _ _ _ ?_⟩)))))));refine ⟨ps++[(t,r.2.fZ fZ)],⟨_,_,_,_,rfl⟩,by rw [zF];rfl,by rw [zF,wM hr,zF,Pz];rfl,λa ha=>?_,sm.trans (xP ht)⟩;rcases zQ.mp ha with h | h
    ·exact xP ht _ _ (rws a h)
    ·cases zN.mp h;exact xN
   ·rintro τ acc H6 ⟨ps,⟨t0,t1,t2,t3,rfl⟩,rfl,Pz,rws,sm⟩ lt cY;refine ⟨lt,zr rfl (.inl ⟨aJ.of xN,λt ht=>q t ps _ (((gD.same sm).new cY).new ht) xN ((rws.aR (bL.new cY)).aR (bL.new ht)) ?_ ?_⟩)⟩
    ·rw [Pz,zA,yD];exact F.good (by omega) L0 L1 UB Ys
    ·have:=congrArg List.length Pz;rw [zA,zA,zA,yD] at this;omega
theorem El:ay ["_law_purse_here_here", "_law_most_walkers", "_law_most_meetings", "_law_walkers", "_law_most"] ["_law_purse_here_here", "_law_most_walkers", "_law_most_meetings"] (aq Cm):=L2.bw
theorem Gs (T:Tx K mg a ak ai ah)(B:aW mg base):aT P w K mg base cB 4 a.AW a.BR ["_law_purse_here_here", "_law_most_walkers", "_law_most_meetings"] (Nu):=by
 have Aa:=wD P w base T B;have GZ:=FQ P w base T B;have Fj:=EF P w base T B;refine T.Br.ok El (λvs H Q E h=>?_) (λbK A outer s H vs Q E hr h=>?_)
 ·obtain ⟨p,a,n,rfl,_⟩:=h;rfl
 ·have nd:=El.nd;have hu:=hr.units;obtain ⟨p,aw,n,rfl,a1,a2,hn,hp,q⟩:=h;refine bU ?_;intro Y
  let B0:Bk Y ((aj Cm).drop 3):=⟨_,(xM (xk (xZ (xz (xK (xL (xT GZ (hr.mono (by decide)) rfl T.Gx T.GD T.GJ .nil av (xK (xL (pv 0) (xL (pv 3) xU rfl) rfl))) (xL (xT Fj (hr.mono (by decide)) rfl T.Fe T.Ff T.Fg .nil av (xK (xL (pv 0) (xL (pv 3) (xL (pv 4) xU rfl) rfl) rfl))) xU rfl) rfl))))))⟩
  let B1:Bk Y ((aj Cm).drop 1):=⟨_,(xM (xf (xb (i:=4) nd rfl rfl (xT Aa (hr.mono (by decide)) rfl T.Ab T.Ac T.Ae .nil av (xK (xL (pv 0) (xL (xg xt (pv 2) xO) xU rfl) rfl)))) (xf (xr (xi bX (pv 3) xO (aB _)) (xM (xk (xb (i:=4) nd rfl rfl xO))) xh) B0.bl)))⟩
  refine ⟨_,(xM (xf (xb (i:=3) nd rfl rfl (xg xt xO (xT Aa (hr.mono (by decide)) rfl T.Ab T.Ac T.Ae .nil av (xK (xL (pv 0) (xL (pv 1) xU rfl) rfl))))) B1.bl)),?_⟩;have line:1001<=sizeLine:=by rw [sizeLine_eq];decide
  have uN:(2:Int) ^ 200 > 1000:=by decide
  refine (zr rfl (zr rfl ⟨p,aw,rfl,by omega,by omega,hp,λd H1 d0 d1 g1=>(aG rfl rfl ?_)⟩));obtain ⟨k,rfl⟩:=zg d0;refine (zr rfl (zr rfl (aG rfl rfl ⟨p,zr rfl ⟨by omega,by omega,g1.2,λe H2 e0 e1 g2=>?_⟩⟩)));obtain ⟨m,em⟩:=zg e0;have hm:m<=n:=by omega
  refine ⟨_,rfl,rfl,_,rfl,kZ (fun σ H3=>∃ m:Nat,σ=[some (.ref p),some (.int aw),some (.int n),some (.int (1 + (k:Int))),some (.int m)]/\m<=n/\(m=0\/1<=k)/\Go p H H3) ?_ (λc k0=>k0 _ _ ⟨0,rfl,zY _,.inl rfl,g1.trans g2⟩) (λc=>⟨m,by rw [em];rfl,hm,.inr (by
    by_cases hk:k=0
    ·subst hk;exact absurd c (by simp)
    ·omega),g1.trans g2⟩)⟩
  rintro σ H2 ⟨m,rfl,hm,hk,g2⟩;refine (zr rfl (zr rfl ⟨p,1 + k,by simp,by omega,g2.2,λtr af H3 g3 h3 l3 r3=>(zr rfl (zr rfl (zr rfl ⟨p,_,m,rfl,by omega,by omega,by omega,g3.2,λtm ps H4 g4 h4 r4 gd l4=>⟨by show 2<=sizeLine;omega,λb hb=>?_⟩⟩)))⟩));have h3':=g4.aR g3.2 _ _ h3;have tn:=bL.new (o:=HO.tup [V.ref tr,V.ref tm]) hb;refine q b af tr tm ps _ ((g2.trans (g3.trans g4)).new hb) ⟨xN,tn _ _ h3',tn _ _ h4,r4.aR tn⟩ (by omega) (by omega) r3 ?_ (by omega);rw [l3];simpa using gd
theorem Eh:ay ["_law_purse_here_here", "_law_book_here_here", "_law_later_here", "_law_way", "_law_at_here"] ["_law_purse_here_here", "_law_book_here_here", "_law_later_here"] (aq wI):=L2.bw
theorem Er (T:Tx K mg a ak ai ah)(B:aW mg base):aT P w K mg base cB 3 a.AS a.BN ["_law_purse_here_here", "_law_book_here_here", "_law_later_here"] (vJ):=by
 have Aa:=wD P w base T B;have Iv:=G8 P w base T B;refine T.Bn.ok Eh (λvs H Q E h=>?_) (λbK A outer s H vs Q E hr h=>?_)
 ·obtain ⟨p,b,j,_,_,_,_,rfl,_⟩:=h;rfl
 ·have nd:=Eh.nd;have hu:=hr.units;obtain ⟨p,b,j,af,tr,tm,ps,rfl,hj,hb,gd,hp,q⟩:=h;refine bU ?_;intro Y
  let B0:Bk Y ((aj wI).drop 6):=⟨_,(xM (xk (xZ (xg cF (xY (xj rfl) (xY (xj rfl) (xY (xj rfl) (pv 1) xO (λ_ _=>rfl)) (pv 4) (λ_ _=>rfl)) xO (λ_ _=>rfl)) (xY (xW rfl) (wA (xK (xL xO (xL xO xU rfl) rfl))) (xg NJ (xg we (xT Aa (hr.mono (by decide)) rfl T.Ab T.Ac T.Ae .nil av (xK (xL (pv 0) (xL xO xU rfl) rfl))) xO) (pv 2)) (λ_ _=>rfl))))))⟩
  let B1:Bk Y (nb (aj wI) 5):=⟨_,(xM (xk (xb (i:=4) nd rfl rfl (xY (xW rfl) (wA (xK (xL (xg we (pv 4) xO) (xL (xg we (xg xt (pv 4) (xc (xX rfl) (by rfl) T.bA PySem.boot_len (xK (xL (xY (xj rfl) (pv 1) xO (λ_ _=>rfl)) xU rfl)))) xO) xU rfl) rfl))) (pv 2) (λ_ _=>rfl)))))⟩
  let B2:Bk Y ((aj wI).drop 4):=⟨_,(xM (xf (xb (i:=4) nd rfl rfl (xT Aa (hr.mono (by decide)) rfl T.Ab T.Ac T.Ae .nil av (xK (xL (pv 0) (xL (xc (xX rfl) (by rfl) T.bA PySem.boot_len (xK (xL (xY (xj rfl) (pv 1) xO (λ_ _=>rfl)) xU rfl))) xU rfl) rfl)))) (xf (xr (xi gf (pv 3) xO (aB _)) B1.ps xh) B0.bl)))⟩
  let B3:Bk Y ((aj wI).drop 3):=⟨_,(xM (xf (xr (xi (um hu) (xY (xj rfl) (pv 1) xO (λ_ _=>rfl)) (xz cj) (aB _)) (xM (xk (xZ (xT Aa (hr.mono (by decide)) rfl T.Ab T.Ac T.Ae .nil av (xK (xL (pv 0) (xL xO xU rfl) rfl)))))) xh) B2.bl))⟩
  let B4:Bk Y ((aj wI).drop 2):=⟨_,(xM (xf (xr (xi bX (pv 3) xO (aB _)) (xM (xk (xZ (xT Iv (hr.mono (by decide)) rfl T.HQ T.HX T.Ie .nil av (xK (xL (pv 0) xU rfl)))))) xh) B3.bl))⟩
  let B5:Bk Y ((aj wI).drop 1):=⟨_,(xM (xf (xr (xi bX (pv 3) xO (aB _)) (xM (xk (xZ (xY (xW rfl) (wA (xK (xL xO (xL (xg gG xO xO) xU rfl) rfl))) (pv 2) (λ_ _=>rfl))))) xh) B4.bl))⟩
  refine ⟨_,(xM (xf (xb (i:=3) nd rfl rfl (xT Aa (hr.mono (by decide)) rfl T.Ab T.Ac T.Ae .nil av (xK (xL (pv 0) (xL xO xU rfl) rfl)))) B5.bl)),?_⟩;have line:=bI;have uN:(2:Int) ^ 200 > 10000:=by decide
  have c9:rP 10 9:=⟨by decide,by decide,by decide⟩;have e9:(10:Int) ^ Int.toNat 9=1000000000:=by decide
  have WT:=gd.len;refine (zr rfl ⟨p,zr rfl ⟨by decide,by decide,hp,λway H1 w0 w1 g1=>?_⟩⟩);refine (zr rfl ⟨rfl,zr rfl (dP (λc=>?_) (λc=>(zr rfl ⟨rfl,zr rfl (dP (λc=>?_) (λc=>?_))⟩)))⟩)
  ·refine (aG rfl rfl ⟨c9,by show 2<=sizeLine;omega,λl hl=>(zr rfl ?_)⟩);rcases hj with rfl | rfl
   ·exact (bR xN rfl (q _ _ (by omega) (by omega) (g1.new hl)))
   ·exact (bR xN rfl (q _ _ (by rw [e9];decide) (by rw [e9];decide) (g1.new hl)))
  ·exact (zr rfl ⟨p,rfl,g1.2,λd H2 d0 d1 g2=>q _ _ d0 d1 (g1.trans g2)⟩)
  have lC:=hb.aR (g1.aR hp);refine (zr rfl (cH lC.book rfl ⟨zY _,λu QL=>?_⟩));have pD:=lC.aR (bL.new (o:=HO.tup []) QL);have g2:=g1.new (o:=HO.tup []) QL;refine ⟨tm,u,zr rfl ⟨rfl,bC.of pD.meets,bC.of xN,zr rfl (o5 (λc2=>?_) (λc2=>?_))⟩⟩
  ·exact (zr rfl ⟨p,zr rfl ⟨by decide,by decide,g2.2,λd H3 d0 d1 g3=>q _ _ d0 (by omega) (g2.trans g3)⟩⟩)
  have lps:1<=ps.length:=by
   cases ps with
   | nil=>cases c2
   | cons _ _=>simp
  refine (zr rfl (zr rfl (cH pD.book rfl ⟨tm,zr rfl ⟨.inr (bC.of pD.meets),p,zr rfl ⟨by rw [zA];omega,by rw [zA];omega,g2.2,λd H3 d0 d1 g3=>?_⟩⟩⟩)));rw [zA] at d1;have Ov:=pD.aR (g3.aR g2.2);have XO:=g2.trans g3;refine (zr rfl (aG rfl rfl (zr rfl (dP (λc3=>?_) (λc3=>?_)))))
  ·refine (zr rfl (aG rfl rfl ⟨⟨by decide,by decide⟩,zr rfl (zr rfl (cH Ov.book rfl ⟨tm,zr rfl ⟨.inr (bC.of Ov.meets),aG rfl rfl (aG rfl rfl ⟨⟨by decide,by decide⟩,by show 2<=sizeLine;omega,λl hl=>(zr rfl ?_)⟩)⟩⟩))⟩));have gx:=XO.new (o:=HO.lst [V.int (d / 2),V.int ((d + ((ps.map λa=>V.ref a.1).length:Int)) / 2)]) hl;have hx:=Ov.aR (bL.new (o:=HO.lst [V.int (d / 2),V.int ((d + ((ps.map λa=>V.ref a.1).length:Int)) / 2)]) hl);obtain ⟨k,ek,hk⟩:∃ k:Nat,dS [V.int (d / 2),V.int ((d + ((ps.map λa=>V.ref a.1).length:Int)) / 2)] j=some (V.int (k:Int))/\k < ps.length:=by
    rcases hj with rfl | rfl
    ·obtain ⟨k,hk⟩:=zg (show 0<=d / 2 by omega);exact ⟨k,by rw [<-hk];rfl,by omega⟩
    ·obtain ⟨k,hk⟩:=zg (show 0<=(d + ((ps.map λa=>V.ref a.1).length:Int)) / 2 by omega);refine ⟨k,by rw [<-hk];rfl,?_⟩;rw [zA] at hk;omega
   refine (bR xN ek ?_);refine (zr rfl (cH hx.book rfl (zr rfl (cH hx.meets (xo (v:=V.ref ps[k].1) (by simp [hk])) (cH (hx.rows _ (z4 hk)) rfl ⟨by show 2<=sizeLine;omega,λl9 QW=>?_⟩)))));have g9:=gx.new (o:=HO.lst [V.int 1,V.int 0]) QW;refine (zr rfl ⟨p,zr rfl ⟨by decide,by decide,g9.2,λe H9 e0 e1 nX=>(aG rfl rfl ⟨⟨by decide,by decide⟩,zr rfl (aG rfl rfl ?_)⟩)⟩⟩);have h9:=nX.1 l9 _ (gx.2.ne QW) xN;have tb:=gd.at (z4 hk);have bx:(e / 3=0\/e / 3=1):=by omega
   rcases hj with rfl | rfl <;> rcases bx with bx | bx <;> rw [bx]
   ·exact (bR h9 (by decide:dS [V.int 1,V.int 0] (Builtin.bitXor 0 0)=some (V.int 1)) (aG rfl rfl (q _ _ (by omega) (by omega) (g9.trans nX))))
   ·exact (bR h9 (by decide:dS [V.int 1,V.int 0] (Builtin.bitXor 1 0)=some (V.int 0)) (aG rfl rfl (q _ _ (by omega) (by omega) (g9.trans nX))))
   ·exact (bR h9 (by decide:dS [V.int 1,V.int 0] (Builtin.bitXor 0 1)=some (V.int 0)) (aG rfl rfl (q _ _ (by omega) (by omega) (g9.trans nX))))
   ·exact (bR h9 (by decide:dS [V.int 1,V.int 0] (Builtin.bitXor 1 1)=some (V.int 1)) (aG rfl rfl (q _ _ (by omega) (by omega) (g9.trans nX))))
  ·have gx:=XO;have hx:=Ov;obtain ⟨k,rfl⟩:=zg d0;have hk:k < ps.length:=by omega
   refine (zr rfl (cH hx.book rfl (zr rfl (cH hx.meets (xo (v:=V.ref ps[k].1) (by simp [hk])) (cH (hx.rows _ (z4 hk)) rfl ⟨by show 2<=sizeLine;omega,λl9 QW=>?_⟩)))));have g9:=gx.new (o:=HO.lst [V.int 1,V.int 0]) QW;refine (zr rfl ⟨p,zr rfl ⟨by decide,by decide,g9.2,λe H9 e0 e1 nX=>(aG rfl rfl ⟨⟨by decide,by decide⟩,zr rfl (aG rfl rfl ?_)⟩)⟩⟩);have h9:=nX.1 l9 _ (gx.2.ne QW) xN;have tb:=gd.at (z4 hk);have bx:(e / 3=0\/e / 3=1):=by omega
   rcases hj with rfl | rfl <;> rcases bx with bx | bx <;> rw [bx]
   ·exact (bR h9 (by decide:dS [V.int 1,V.int 0] (Builtin.bitXor 0 0)=some (V.int 1)) (aG rfl rfl (q _ _ (by omega) (by omega) (g9.trans nX))))
   ·exact (bR h9 (by decide:dS [V.int 1,V.int 0] (Builtin.bitXor 1 0)=some (V.int 0)) (aG rfl rfl (q _ _ (by omega) (by omega) (g9.trans nX))))
   ·exact (bR h9 (by decide:dS [V.int 1,V.int 0] (Builtin.bitXor 0 1)=some (V.int 0)) (aG rfl rfl (q _ _ (by omega) (by omega) (g9.trans nX))))
   ·exact (bR h9 (by decide:dS [V.int 1,V.int 0] (Builtin.bitXor 1 1)=some (V.int 1)) (aG rfl rfl (q _ _ (by omega) (by omega) (g9.trans nX))))
theorem DS:ay ["_law_thing"] ["_law_thing"] (aq C2):=L2.bw
theorem D1 (T:Tx K mg a ak ai ah)(B:aW mg base):aT P w K mg base cB 1 a.AC a.Bu ["_law_thing"] (rV):=by
 refine T.A3.ok DS (λvs H Q E h=>?_) (λbK A outer s H vs Q E hr h=>?_)
 ·obtain ⟨x,t,rfl,_⟩:=h;rfl
 ·have nd:=DS.nd;have hu:=hr.units;obtain ⟨x,t,rfl,ht,k⟩:=h;refine ⟨_,(xM (xk (xZ (cD (xc (wH) (by rfl) T.aZ zh (xK (xL (pv 0) (xL (cN (v:=V.ty "int") rfl T.MQ PyProof.Rows.boot_int rfl) xU rfl) rfl))) (cg (Ju (xc (wH) (by rfl) T.aZ zh (xK (xL (pv 0) (xL (cN (v:=V.ty "bool") rfl T.KC PyProof.Rows.boot_bool rfl) xU rfl) rfl))))))))),?_⟩;refine (zr rfl ⟨x,t, "int", rfl,ht,.inl rfl,zr rfl ?_⟩);rcases jA ht with rfl | rfl | rfl | rfl | rfl | rfl | rfl <;> first | exact aD rfl k | exact aM rfl ⟨_,rfl,x,_, "bool", rfl,ht,.inr (.inl rfl),_,rfl,k⟩
theorem EU:ay ["thing"] ["thing"] (aq D3):=L2.bw
theorem G5 (T:Tx K mg a ak ai ah)(B:aW mg base):aT P w K mg base cB 1 a.Be a.Cc ["thing"] (rV):=by
 refine T.BD.ok EU (λvs H Q E h=>?_) (λbK A outer s H vs Q E hr h=>?_)
 ·obtain ⟨x,t,rfl,_⟩:=h;rfl
 ·have nd:=EU.nd;have hu:=hr.units;obtain ⟨x,t,rfl,ht,k⟩:=h;refine ⟨_,(xM (xk (xZ (cD (xc (wH) (by rfl) T.aZ zh (xK (xL (pv 0) (xL (cN (v:=V.ty "int") rfl T.MQ PyProof.Rows.boot_int rfl) xU rfl) rfl))) (cg (Ju (xc (wH) (by rfl) T.aZ zh (xK (xL (pv 0) (xL (cN (v:=V.ty "bool") rfl T.KC PyProof.Rows.boot_bool rfl) xU rfl) rfl))))))))),?_⟩;simp only [uI,pG,Kc,vv,PZ,g8,Ka,ou,QE,rU,qG,uc,oG,qk,qm,vE,vA,Ld,Nf,sd,rI,qj,tC,jh,oq,Pd,jK,ql,oz,vB,oi,jc,lP,tB,vC,vF,PR,om,Qi,Qh,t6,Pf,P9,Qa,iM,vz,vD,PM,gU,lQ,kC,L2.start,za,yU,zZ,yI,Nat.reduceAdd,Nat.reduceSub,List.replicate,yz,xG,yp,yW,yK,Option.some.injEq,exists_eq_left',exists_eq_left,exists_and_left,and_assoc,V.int.injEq,V.ty.injEq,V.str.injEq,V.bl.injEq,V.ref.injEq,List.cons.injEq,and_true,true_and,yn,yo];simp only [V.ty.injEq,ht,Option.some.injEq,exists_eq_left',exists_and_left,true_or,or_true,true_and];rcases jA ht with rfl | rfl | rfl | rfl | rfl | rfl | rfl <;> simpa [JV] using k
theorem Ee:ay ["thing", "least", "most"] ["thing", "least", "most"] (aq Dw):=L2.bw
theorem Eo (T:Tx K mg a ak ai ah)(B:aW mg base):aT P w K mg base cB 2 a.AO a.BK ["thing", "least", "most"] (vH):=by
 have Ip:=G5 P w base T B;refine T.Bj.ok Ee (λvs H Q E h=>?_) (λbK A outer s H vs Q E hr h=>?_)
 ·obtain ⟨x,t,lo,hi,rfl,_⟩:=h;rfl
 ·have nd:=Ee.nd;have hu:=hr.units;obtain ⟨x,t,lo,hi,rfl,ht,k⟩:=h;refine ⟨_,(xM (xk (xZ (cD (xT Ip (hr.mono (by decide)) rfl T.HM T.HU T.HZ .nil av (xK (xL (pv 0) xU rfl))) (cg (jY gc gc (pv 1) (pv 0) (pv 2))))))),?_⟩;simp only [uI,pG,Kc,vv,PZ,g8,Ka,ou,QE,rU,qG,uc,oG,qk,qm,vE,vA,Ld,Nf,sd,rI,qj,tC,jh,oq,Pd,jK,ql,oz,vB,oi,jc,lP,tB,vC,vF,PR,om,Qi,Qh,t6,Pf,P9,Qa,iM,vz,vD,PM,gU,lQ,kC,L2.start,za,yU,zZ,yI,Nat.reduceAdd,Nat.reduceSub,List.replicate,yz,xG,yp,yW,yK,Option.some.injEq,exists_eq_left',exists_eq_left,exists_and_left,and_assoc,V.int.injEq,V.ty.injEq,V.str.injEq,V.bl.injEq,V.ref.injEq,List.cons.injEq,and_true,true_and,yn,yo];refine ⟨x,t,rfl,ht,zr rfl ?_⟩;by_cases h:t = "int"
  ·subst h;obtain ⟨i,rfl⟩:=K9 ht;simp only [uI,pG,Kc,vv,PZ,g8,Ka,ou,QE,rU,qG,uc,oG,qk,qm,vE,vA,Ld,Nf,sd,rI,qj,tC,jh,oq,Pd,jK,ql,oz,vB,oi,jc,lP,tB,vC,vF,PR,om,Qi,Qh,t6,Pf,P9,Qa,iM,vz,vD,PM,gU,lQ,kC,L2.start,za,yU,zZ,yI,Nat.reduceAdd,Nat.reduceSub,List.replicate,yz,xG,yp,yW,yK,Option.some.injEq,exists_eq_left',exists_eq_left,exists_and_left,and_assoc,V.int.injEq,V.ty.injEq,V.str.injEq,V.bl.injEq,V.ref.injEq,List.cons.injEq,and_true,true_and,yn,yo];by_cases h1:lo<=i
   ·simpa [h1,nV] using k
   ·simpa [h1,nV] using k
  ·rw [N8 ht h] at k;simpa [h] using k
theorem Fm:ay ["thing"] ["thing"] (aq EE):=L2.bw
theorem HK (T:Tx K mg a ak ai ah)(B:aW mg base):aT P w K mg base cB 3 a.BV a.Cz ["thing"] (Np):=by
 have DL:=Eo P w base T B;refine T.Ci.ok Fm (λvs H Q E h=>?_) (λbK A outer s H vs Q E hr h=>?_)
 ·obtain ⟨x,t,rfl,_⟩:=h;rfl
 ·have nd:=Fm.nd;have hu:=hr.units;obtain ⟨x,t,rfl,ht,k⟩:=h;refine ⟨_,(xM (xk (xZ (xT DL (hr.mono (by decide)) rfl T.EZ T.E3 T.E6 .nil av (xK (xL (pv 0) (xL xO (xL (mY (v:=V.int 1000000000) rfl T.pU ⟨_,rfl⟩) xU rfl) rfl) rfl)))))),?_⟩;simp only [uI,pG,Kc,vv,PZ,g8,Ka,ou,QE,rU,qG,uc,oG,qk,qm,vE,vA,Ld,Nf,sd,rI,qj,tC,jh,oq,Pd,jK,ql,oz,vB,oi,jc,lP,tB,vC,vF,PR,om,Qi,Qh,t6,Pf,P9,Qa,iM,vz,vD,PM,gU,lQ,kC,L2.start,za,yU,zZ,yI,Nat.reduceAdd,Nat.reduceSub,List.replicate,yz,xG,yp,yW,yK,Option.some.injEq,exists_eq_left',exists_eq_left,exists_and_left,and_assoc,V.int.injEq,V.ty.injEq,V.str.injEq,V.bl.injEq,V.ref.injEq,List.cons.injEq,and_true,true_and,yn,yo];exact ⟨x,t,mO rfl ⟨ht,k⟩⟩
theorem EV:ay ["number", "bound"] ["number", "bound"] (aq D4):=L2.bw
theorem G6 (T:Tx K mg a ak ai ah)(B:aW mg base):aT P w K mg base cB 1 a.Bf a.Cd ["number", "bound"] (Lk):=by
 refine T.BE.ok EV (λvs H Q E h=>?_) (λbK A outer s H vs Q E hr h=>?_)
 ·obtain ⟨o,t,rfl,_⟩:=h;rfl
 ·have nd:=EV.nd;have hu:=hr.units;obtain ⟨o,t,rfl,q⟩:=h;refine ⟨_,(xM (xk (xZ (cD (jX (fU (pv 0))) (cg (cM jf (pv 0) (pv 1) (aB _))))))),?_⟩;cases o with
  | none=>exact (zr rfl (zr rfl (aD rfl q)))
  | some y=>exact (zr rfl (zr rfl (aM rfl (zr rfl (zr rfl (aG rfl rfl q))))))
theorem Fl:ay ["number", "bound"] ["number", "bound"] (aq ED):=L2.bw
theorem HJ (T:Tx K mg a ak ai ah)(B:aW mg base):aT P w K mg base cB 1 a.BU a.Cy ["number", "bound"] (Nn):=by
 refine T.Ch.ok Fl (λvs H Q E h=>?_) (λbK A outer s H vs Q E hr h=>?_)
 ·obtain ⟨o,t,rfl,_⟩:=h;rfl
 ·have nd:=Fl.nd;have hu:=hr.units;obtain ⟨o,t,rfl,q⟩:=h;refine ⟨_,(xM (xk (xZ (cD (jX (fU (pv 0))) (cg (cM gc (pv 0) (pv 1) (aB _))))))),?_⟩;cases o with
  | none=>exact (zr rfl (zr rfl (aD rfl q)))
  | some y=>exact (zr rfl (zr rfl (aM rfl (zr rfl (zr rfl (aG rfl rfl q))))))
theorem Ef:ay ["book", "thing"] ["book", "thing"] (aq Dx):=L2.bw
theorem Gp (T:Tx K mg a ak ai ah)(B:aW mg base):aT P w K mg base cB 3 a.AQ a.BL ["book", "thing"] (qz):=by
 have DL:=Eo P w base T B;refine T.Bl.ok Ef (λvs H Q E h=>?_) (λbK A outer s H vs Q E hr h=>?_)
 ·obtain ⟨b,x,t,_,_,_,_,rfl,_⟩:=h;rfl
 ·have nd:=Ef.nd;have hu:=hr.units;obtain ⟨b,x,t,af,tr,tm,ps,rfl,hb,ht,q⟩:=h;refine ⟨_,(xM (xk (xZ (xT DL (hr.mono (by decide)) rfl T.EZ T.E3 T.E6 .nil av (xK (xL (pv 1) (xL xO (xL (xg cF (xc (xX rfl) (by rfl) T.bA PySem.boot_len (xK (xL (xY (xj rfl) (pv 0) xO (λ_ _=>rfl)) xU rfl))) xO) xU rfl) rfl) rfl)))))),?_⟩;refine (zr rfl (zr rfl (cH hb.book rfl ⟨tr,zr rfl ⟨.inr (bC.of hb.af),aG rfl rfl ⟨x,t,mO rfl ⟨ht,?_⟩⟩⟩⟩)));rw [zA];exact q
theorem Fo:ay ["book", "time"] ["book", "time"] (aq DO):=L2.bw
theorem Fq (T:Tx K mg a ak ai ah)(B:aW mg base):aT P w K mg base cB 1 a.BW a.CA ["book", "time"] (vO):=by
 refine T.Cj.ok Fo (λvs H Q E h=>?_) (λbK A outer s H vs Q E hr h=>?_)
 ·obtain ⟨b,t,_,_,_,_,rfl,_⟩:=h;rfl
 ·have nd:=Fo.nd;have hu:=hr.units;obtain ⟨b,t,af,tr,tm,ps,rfl,hb,hn,q⟩:=h;refine ⟨_,(xM (xk (xZ (xc (xX rfl) (by rfl) T.bA PySem.boot_len (xK (xL (dh (own:=["meeting"]) (caps:=[1]) rfl (show bq ["meeting"] [1] ["book", "time"] (aq DO) _ from L2.nE) (jV rfl (xY (xj rfl) (pv 0) xO (λ_ _=>rfl))) (λ_ _ _ _=>(xV (i:=0) (show List.Nodup (["meeting", "time"]:List Str) from by decide +kernel) rfl rfl)) (λ_ _ _ _=>se (xi gc (xY (xj rfl) (pv 0) xO (λ_ _=>rfl)) (pv 1) (aB _))) (λ_ _ _ _=>(pv 0))) xU rfl)))))),?_⟩;refine (zr rfl (cH hb.book rfl ⟨tm,rfl,⟨_,bC.of hb.meets⟩,?_⟩));refine (let W3:IC:=λi τ acc H5=>(∃ t0,τ=[t0,some (.int t)])/\acc.length=cnt ((ps.map (·.2)).take i) t/\acc.length<=i/\aA H H5;Kv (K:=K) (a:=tm) (xs:=ps.map λa=>V.ref a.1) W3)
   ?_ (by rw [zA];omega) ?_ ?_ ?_
  ·exact ⟨⟨_,rfl⟩,rfl,zB _,aA.refl _⟩
  ·rintro i τ acc H5 ⟨⟨t0,rfl⟩,_,le,sm⟩;exact ⟨le,bC.of (sm _ _ hb.meets)⟩
  ·rintro i x τ acc H5 C hx ⟨⟨t0,rfl⟩,ec,le,sm⟩ hC;obtain ⟨r,hr,rfl⟩:=wP hx;have f6:=sm _ _ (hb.rows r (zD hr));have hm:(ps.map (·.2))[i]?=some r.2:=by rw [zG,hr];rfl
   refine (zr rfl (cH f6 rfl (zr rfl (aG rfl rfl (zr rfl (dP (λc=>(zr rfl (hC _ _ _ ?_))) (λc=>hC _ _ _ ?_)))))))
   ·exact ⟨⟨_,rfl⟩,by rw [pN hm,if_pos c,zO,ec];rfl,by rw [zO];exact Nat.succ_le_succ le,sm⟩
   ·exact ⟨⟨_,rfl⟩,by rw [pN hm,if_neg c,ec];rfl,by omega,sm⟩
  ·rintro τ acc H5 ⟨⟨t0,rfl⟩,ec,le,sm⟩ l hl;have e:(ps.map λa=>V.ref a.1).length=(ps.map (·.2)).length:=by simp
   rw [e,yD] at ec;refine ⟨l,zr rfl ⟨.inl (aJ.of xN),?_⟩⟩;rw [ec];exact q _ (sm.trans (xP hl))
theorem Iw:ay ["book", "told", "number", "one", "other", "when", "many"] ["book"] (aq EC):=L2.bw
theorem Jd (T:Tx K mg a ak ai ah)(B:aW mg base):aT P w K mg base cB 1 a.DK a.EN ["book"] (Nm):=by
 refine T.Ed.ok Iw (λvs H Q E h=>?_) (λbK A outer s H vs Q E hr h=>?_)
 ·obtain ⟨b,_,_,_,_,rfl,_⟩:=h;rfl
 ·have nd:=Iw.nd;have hu:=hr.units;obtain ⟨b,af,tr,tm,ps,rfl,hb,gd,q⟩:=h;refine bU ?_;intro Y
  let B0:Bk Y ((nb (aj EC) 1).drop 1):=⟨_,(xM (xk (wl (dN zV zc zd wE (pv 1) (xK (xL (xz (xK (xL (pv 2) (xL (pv 4) (xL (pv 3) (xL (pv 5) xU rfl) rfl) rfl) rfl))) xU rfl))))))⟩
  let B1:Bk Y (nb (aj EC) 1):=⟨_,(xM (xf (wl (dN zV zc zd wE (pv 1) (xK (xL (xz (xK (xL (pv 2) (xL (pv 3) (xL (pv 4) (xL (pv 5) xU rfl) rfl) rfl) rfl))) xU rfl)))) B0.bl))⟩
  let B2:Bk Y ((aj EC).drop 1):=⟨_,(xM (xf (wQ PassesOwn.never rfl (wz rfl rfl T.dw (xK (xL (xY (xj rfl) (pv 0) xO (λ_ _=>rfl)) xU rfl))) (xv (n:=2) rfl rfl (xS (xV (i:=2) nd rfl rfl) (xS (xv (n:=4) rfl rfl (xS (xV (i:=3) nd rfl rfl) (xS (xV (i:=4) nd rfl rfl) (xS (xV (i:=5) nd rfl rfl) (xS (xV (i:=6) nd rfl rfl) xu))))) xu))) B1.ps) (xk (xZ (pv 1)))))⟩
  refine ⟨_,(xM (xf (xb (i:=1) nd rfl rfl (wA cj)) B2.bl)),?_⟩;have line:=bI;have WT:=gd.len;refine ⟨zY _,λl hl=>?_⟩;have lC:=hb.same (xP (o:=HO.lst []) hl);refine (zr rfl (cH lC.book rfl ⟨tm,rfl,⟨_,bC.of lC.meets⟩,?_⟩));refine (let W4:IV:=λi σ H4=>(∃ v2 v3 v4 v5 v6,σ=[some (.ref b),some (.ref l),v2,v3,v4,v5,v6])/\aA H H4/\∃ ws:List (Addr×W4),H4 l=some (.lst (ws.map λa=>V.ref a.1))/\(∀ a∈ws,H4 a.1=some (.tup a.2.vs))/\ws.map (·.2)=fk (ps.map (·.2)) i/\ws.length=2 * i;uK (K:=K) (a:=tm) (xs:=ps.map λa=>V.ref a.1) W4)
   ⟨⟨_,_,_,_,_,rfl⟩,xP hl,[],xN,(λ_ z=>nomatch z),rfl,rfl⟩ (λi σ H4 _ h4=>bC.of ((hb.same h4.2.1).meets)) ?_ ?_
  ·rintro i x q' σ H4 hx hq ⟨⟨v2,v3,v4,v5,v6,rfl⟩,sm,ws,h4,hr,ew,lw⟩;obtain ⟨r,uF,rfl⟩:=wP hx;have hi:i < ps.length:=(zC.mp uF).1;have hm:(ps.map (·.2))[i]?=some r.2:=by rw [zG,uF];rfl
   obtain ⟨a1,a2,a3,a4,a5,_⟩:=gd.at (zD uF);have tY:=sm.trans (xP (o:=HO.tup [.int i,.ref r.1]) hq);have f6:=(hb.same tY).rows r (zD uF);have h5:=(xP (o:=HO.tup [.int i,.ref r.1]) hq) _ _ h4;refine ⟨q',zr rfl ⟨bC.of xN,rfl,mO rfl (mO rfl (KU f6 ⟨rfl,?_⟩))⟩⟩;refine (zr rfl ⟨.inl ⟨rfl,_,aJ.of h5⟩,zr rfl (zr rfl (zr rfl (zr rfl ⟨by show 4<=sizeLine;omega,λt1 ng=>⟨l,aG rfl rfl ⟨xP ng _ _ h5,by rw [zA];omega,?_⟩⟩⟩)))⟩);have n1:t1≠l:=(xQ h5 ng).symm;refine (zr rfl ⟨.inl ⟨rfl,_,aJ.of xN⟩,zr rfl (zr rfl (zr rfl (zr rfl ⟨by show 4<=sizeLine;omega,λt2 nW=>⟨l,aG rfl rfl ⟨xP nW _ _ xN,by rw [zO,zA];show ws.length + 1 < sizeLine;omega,?_⟩⟩⟩)))⟩);have n2:t2≠l:=λz=>by rw [z,xN] at nW;cases nW
   have n12:t1≠t2:=λz=>by rw [<-z,xR n1,xN] at nW;cases nW
   have e1:(r.2.lo.toNat:Int)=r.2.lo:=yN a1;have e2:(r.2.hi.toNat:Int)=r.2.hi:=yN (by omega);have uZ:aA H (upd (upd (upd (upd (upd H4 q' (.tup [.int i,.ref r.1])) t1 (.tup [.int i,.int r.2.lo,.int r.2.hi,.int r.2.t])) l (.lst ((ws.map λa=>V.ref a.1)++[.ref t1]))) t2 (.tup [.int i,.int r.2.hi,.int r.2.lo,.int r.2.t])) l (.lst ((ws.map λa=>V.ref a.1)++[.ref t1]++[.ref t2]))):=
    aA.put hl ((aA.put hl (tY.trans (xP ng))).trans (xP nW))
   refine ⟨⟨_,_,_,_,_,rfl⟩,uZ,ws++[(t1,⟨i,⟨r.2.lo.toNat,r.2.hi.toNat,r.2.t⟩⟩),(t2,⟨i,⟨r.2.hi.toNat,r.2.lo.toNat,r.2.t⟩⟩)],?_,λa ha=>?_,?_,?_⟩
   ·rw [xN,zF,List.append_assoc];rfl
   ·rcases zQ.mp ha with h | h
    ·have:=hr a h;have na:a.1≠l:=bY this h4 (by intro z;cases z);have b1:=xP (o:=HO.tup [.int i,.ref r.1]) hq _ _ this;have b2:=xP (o:=HO.tup [.int i,.int r.2.lo,.int r.2.hi,.int r.2.t]) ng _ _ b1;rw [xR na];exact xP nW _ _ (by rw [xR na];exact b2)
    ·simp only [zP,ya,or_false] at h;rcases h with rfl | rfl
     ·rw [xR n1];refine xP nW _ _ ?_;rw [xR n1,xN];show _=some (HO.tup [.int i,.int (r.2.lo.toNat:Int),.int (r.2.hi.toNat:Int),.int r.2.t]);rw [e1,e2]
     ·rw [xR n2,xN];show _=some (HO.tup [.int i,.int (r.2.hi.toNat:Int),.int (r.2.lo.toNat:Int),.int r.2.t]);rw [e1,e2]
   ·rw [zF,ew,jG hm];rfl
   ·rw [zO,lw];show 2 * i + 2=_;omega
  ·rintro σ H4 ⟨⟨v2,v3,v4,v5,v6,rfl⟩,sm,ws,h4,hr,ew,lw⟩;rw [zA] at ew;exact (zr rfl (q l ws _ hl sm h4 hr ew))
theorem ES:ay ["book", "number", "walker", "one", "other", "when", "many"] ["book", "number", "walker"] (aq D2):=L2.bw
theorem EY (T:Tx K mg a ak ai ah)(B:aW mg base):aT P w K mg base cB 1 a.Bc a.Ca ["book", "number", "walker"] (tU):=by
 refine T.BB.ok ES (λvs H Q E h=>?_) (λbK A outer s H vs Q E hr h=>?_)
 ·obtain ⟨b,k,v,_,_,_,_,_,rfl,_⟩:=h;rfl
 ·have nd:=ES.nd;have hu:=hr.units;obtain ⟨b,k,v,af,tr,tm,ps,m,rfl,hb,hm,q⟩:=h;refine ⟨_,(xM (xf (wc (xY (xj rfl) (xY (xj rfl) (pv 0) xO (λ_ _=>rfl)) (pv 1) (λ_ _=>rfl)) (xv (n:=4) rfl rfl (xS (xV (i:=3) nd rfl rfl) (xS (xV (i:=4) nd rfl rfl) (xS (xV (i:=5) nd rfl rfl) (xS (xV (i:=6) nd rfl rfl) xu)))))) (xk (xZ (ia (xi bX (pv 2) (pv 3) (aB _)) (pv 4) (pv 3)))))),?_⟩;have hk:k < ps.length:=by
   have:=(zC.mp hm).1;simpa using this
  have em:ps[k].2=m:=by
   rw [zG,zI hk] at hm;exact Option.some.inj hm
  have f6:=hb.rows _ (z4 hk);rw [em] at f6;refine (zr rfl (cH hb.book rfl (zr rfl (cH hb.meets (xo (v:=V.ref ps[k].1) (by simp [hk])) (KU f6 ?_)))));refine (zr rfl (zr rfl ⟨rfl,zr rfl (dP (λc=>?_) (λc=>?_))⟩))
  ·rw [if_pos (V.int.inj c)] at q;exact (zr rfl q)
  ·rw [if_neg λz=>c (by rw [z])] at q;exact (zr rfl q)
theorem ET:ay ["book", "walker", "number"] ["book", "walker", "number"] (aq C1):=L2.bw
theorem G4 (T:Tx K mg a ak ai ah)(B:aW mg base):aT P w K mg base cB 1 a.Bd a.Cb ["book", "walker", "number"] (Nt):=by
 refine T.BC.ok ET (λvs H Q E h=>?_) (λbK A outer s H vs Q E hr h=>?_)
 ·obtain ⟨b,k,x,_,_,_,_,rfl,_⟩:=h;rfl
 ·have nd:=ET.nd;have hu:=hr.units;obtain ⟨b,k,x,af,tr,tm,ps,rfl,hb,hn,q⟩:=h;refine ⟨_,(xM (xk (xZ (dh (own:=["other"]) (caps:=[2,1]) rfl (show bq ["other"] [2,1] ["book", "walker", "number"] (aq C1) _ from L2.nE) (b9 rfl T.cz (xK (xL (xc (xX rfl) (by rfl) T.bA PySem.boot_len (xK (xL (xY (xj rfl) (pv 0) xO (λ_ _=>rfl)) xU rfl))) xU rfl))) (λ_ _ _ _=>(xV (i:=0) (show List.Nodup (["other", "number", "walker"]:List Str) from by decide +kernel) rfl rfl)) (λ_ _ _ _=>dZ) (λ_ _ _ _=>(ia (xi bX (pv 0) (pv 2) (aB _)) (pv 1) cV)))))),?_⟩;refine (zr rfl (cH hb.book rfl ⟨tr,zr rfl ⟨.inr (bC.of hb.af),zr rfl ⟨by rw [zA];omega,by rw [zA];omega,?_⟩⟩⟩));refine (let W5:IC:=λi τ acc H5=>(∃ t0,τ=[t0,some (.int x),some (.int k)])/\acc=(rep i (aC k x)).map oV/\H5=H;gO (lo:=0) (m:=(af.map V.int).length) W5 ?_ (by rw [zA];omega) ?_ ?_ ?_)
  ·exact ⟨⟨_,rfl⟩,rfl,rfl⟩
  ·rintro i τ acc H5 ⟨⟨t0,rfl⟩,rfl,rfl⟩;rw [zA,wn];exact zB _
  ·rintro i τ acc H5 C hi ⟨⟨t0,rfl⟩,rfl,rfl⟩ hC;have snoc:∀ v,oV (aC k x i)=v->(rep i (aC k x)).map oV++[v]=(rep (i + 1) (aC k x)).map oV:=λv e=>by
    unfold rep;rw [List.range_succ,zF,zF,<- e];rfl
   refine (zr rfl (zr rfl ⟨rfl,zr rfl (dP (λc=>(zr rfl (hC _ _ _ ⟨⟨_,rfl⟩,snoc _ ?_,rfl⟩))) (λc=>hC _ _ _ ⟨⟨_,rfl⟩,snoc _ ?_,rfl⟩))⟩))
   ·have:i=k:=by have:=V.int.inj c;omega
    unfold aC;rw [if_pos this];rfl
   ·have:i≠k:=λz=>c (by rw [z];simp);unfold aC;rw [if_neg this];rfl
  ·rintro τ acc H5 ⟨⟨t0,rfl⟩,rfl,rfl⟩ l hl;rw [zA];exact q l _ hl (xP hl) xN
theorem Gb:ay ["wishes"] ["wishes"] (aq Fp):=L2.bw
theorem Ge (T:Tx K mg a ak ai ah)(B:aW mg base):aT P w K mg base cB 1 a.Cq a.C0 ["wishes"] (Lm):=by
 refine T.CL.ok Gb (λvs H Q E h=>?_) (λbK A outer s H vs Q E hr h=>?_)
 ·obtain ⟨_,_,_,rfl,_⟩:=h;rfl
 ·have nd:=Gb.nd;have hu:=hr.units;obtain ⟨l,ws,n,rfl,hw,h60,q⟩:=h;refine ⟨_,(xM (xk (xZ (xg cF (xg Jy xO (xc (xX rfl) (by rfl) T.bA PySem.boot_len (xK (xL (pv 0) xU rfl)))) xO)))),?_⟩;refine (zr rfl ⟨l,zr rfl ⟨.inl (aJ.of hw.1),aG rfl rfl ⟨⟨Int.natCast_nonneg _,by rw [zA];omega,by decide⟩,aG rfl rfl ?_⟩⟩⟩);rw [zA,rY];exact q
theorem Dm:ay ["some", "number"] ["some", "number"] (aq CC):=L2.bw
theorem Fb (T:Tx K mg a ak ai ah)(B:aW mg base):aT P w K mg base cB 1 a.Al a.AL ["some", "number"] (vM):=by
 refine T.Au.ok Dm (λvs H Q E h=>?_) (λbK A outer s H vs Q E hr h=>?_)
 ·obtain ⟨_,_,rfl,_⟩:=h;rfl
 ·have nd:=Dm.nd;have hu:=hr.units;obtain ⟨s,k,rfl,k60,q⟩:=h;refine ⟨_,(xM (xk (xZ (xg cF (pv 0) (xg JB (pv 0) (xg Jy xO (pv 1))))))),?_⟩;refine (zr rfl (zr rfl (zr rfl (aG rfl rfl ⟨⟨Int.natCast_nonneg _,by omega,by decide⟩,aG rfl rfl (aG rfl rfl ?_)⟩))));rw [rY];show Q (V.int ((s:Int) - Builtin.bitAnd (s:Int) (((2 ^ k:Nat):Int)))) H;rw [LN];exact q
theorem F9:ay ["some"] ["some"] (aq En):=L2.bw
theorem Gd (T:Tx K mg a ak ai ah)(B:aW mg base):aT P w K mg base cB 1 a.Co a.CY ["some"] (vK):=by
 refine T.CJ.ok F9 (λvs H Q E h=>?_) (λbK A outer s H vs Q E hr h=>?_)
 ·obtain ⟨_,rfl,_⟩:=h;rfl
 ·have nd:=F9.nd;have hu:=hr.units;obtain ⟨s,rfl,Yy,q⟩:=h;refine ⟨_,(xM (xk (xZ (dh (own:=["part"]) (caps:=[0]) rfl (show bq ["part"] [0] ["some"] (aq En) _ from L2.nE) (b9 rfl T.cz (xK (xL (xg xt (pv 0) xO) xU rfl))) (λ_ _ _ _=>(xV (i:=0) (show List.Nodup (["part", "some"]:List Str) from by decide +kernel) rfl rfl)) (λ_ _ _ _=>se (xi bX (xg JB (pv 0) (pv 1)) (pv 0) (aB _))) (λ_ _ _ _=>(xz (xK (xL (pv 0) (xL (xg cF (pv 1) (pv 0)) xU rfl) rfl)))))))),?_⟩;have line:=bI;refine (zr rfl (aG rfl rfl (zr rfl ?_)));rw [show (s:Int) + 1=((s + 1:Nat):Int) from rfl];refine ⟨by omega,by omega,?_⟩;rw [yG];refine (let W6:IC:=λi τ acc H5=>(∃ t0,τ=[t0,some (.int (s:Int))])/\aA H H5/\∃ rs:List (Addr×Nat×Nat),acc=rs.map (λr=>V.ref r.1)/\(∀ r∈rs,H5 r.1=some (.tup [.int (r.2.1:Int),.int (r.2.2:Int)]))/\rs.map (·.2)=(((List.range (s + 1)).take i).filter λp=>p &&& s == p).map λp=>(p,s - p);gO (lo:=0) (m:=s + 1) W6 ⟨⟨_,rfl⟩,aA.refl _,[],rfl,(λ_ z=>nomatch z),rfl⟩ (by omega) ?_ ?_ ?_)
  ·rintro i τ acc H5 ⟨_,_,rs,rfl,_,e⟩;rw [zA];have:=congrArg List.length e;rw [zA,zA] at this;have z:=List.length_filter_le (λp:Nat=>p &&& s == p) ((List.range (s + 1)).take i);rw [zk] at z;omega
  ·rintro i τ acc H5 C hi ⟨⟨t0,rfl⟩,sm,rs,rfl,hr,e⟩ hC;have st:=wM (l:=List.range (s + 1)) (i:=i) (r:=i) (by rw [List.getElem?_range hi]);refine (zr rfl (zr rfl (aG rfl rfl (zr rfl ⟨rfl,?_⟩))));rw [Int.zero_add];refine (zr rfl ?_);show if decide (V.int (Builtin.bitAnd (i:Int) (s:Int))=V.int (i:Int))=true then _ else _;rw [sV];by_cases e1:i &&& s=i
   ·refine aM (decide_eq_true (by rw [e1])) (zr rfl (zr rfl (zr rfl (aG rfl rfl ⟨by show 2<=sizeLine;omega,λt ht=>?_⟩))));refine hC _ _ _ ⟨⟨_,rfl⟩,sm.trans (xP ht),rs++[(t,i,s - i)],by rw [zF];rfl,λr uG=>?_,?_⟩
    ·rcases zQ.mp uG with h | h
     ·exact xP ht _ _ (hr r h)
     ·cases zN.mp h;rw [xN,show ((s - i:Nat):Int)=(s:Int) - (i:Int) by omega]
    ·rw [st,List.filter_append,zF,zF,e];simp [e1]
   ·refine aD (decide_eq_false (λz=>e1 (Int.ofNat.inj (V.int.inj z)))) (hC _ _ _ ⟨⟨_,rfl⟩,sm,rs,rfl,hr,?_⟩);rw [st,List.filter_append,zF,e];simp [e1]
  ·rintro τ acc H5 ⟨⟨t0,rfl⟩,sm,rs,rfl,hr,e⟩ lc qW;have s2:=xP (o:=HO.lst (rs.map λr=>V.ref r.1)) qW;refine q lc rs _ (sm.trans s2) xN (λr h=>s2 _ _ (hr r h)) ?_;rw [e,List.take_of_length_le (by rw [yH];exact zB _)];rfl
theorem Eg:ay ["book", "thing", "sender", "since", "wish", "last"] ["book", "thing"] (aq Cl):=L2.bw
theorem Gq (T:Tx K mg a ak ai ah)(B:aW mg base):aT P w K mg base cB 4 a.AR a.BM ["book", "thing"] (qA):=by
 have Gn:=HK P w base T B;have E9:=Gp P w base T B;refine T.Bm.ok Eg (λvs H Q E h=>?_) (λbK A outer s H vs Q E hr h=>?_)
 ·obtain ⟨b,x,r,_,_,_,_,rfl,_⟩:=h;rfl
 ·have nd:=Eg.nd;have hu:=hr.units;obtain ⟨b,x,r,af,tr,tm,ps,rfl,hb,th,q⟩:=h;refine bU ?_;intro Y
  let B0:Bk Y ((aj Cl).drop 2):=⟨_,(xM (xk (xZ (cD (xT E9 (hr.mono (by decide)) rfl T.E1 T.E4 T.E7 .nil av (xK (xL (pv 0) (xL (pv 2) xU rfl) rfl))) (cD (xT Gn (hr.mono (by decide)) rfl T.Gf T.Gh T.Gj .nil av (xK (xL (pv 3) xU rfl))) (cD (xT E9 (hr.mono (by decide)) rfl T.E1 T.E4 T.E7 .nil av (xK (xL (pv 0) (xL (pv 4) xU rfl) rfl))) (cg (xT Gn (hr.mono (by decide)) rfl T.Gf T.Gh T.Gj .nil av (xK (xL (pv 5) xU rfl))))))))))⟩
  let B1:Bk Y ((aj Cl).drop 1):=⟨_,(xM (xf (wc (pv 1) (xv (n:=4) rfl rfl (xS (xV (i:=2) nd rfl rfl) (xS (xV (i:=3) nd rfl rfl) (xS (xV (i:=4) nd rfl rfl) (xS (xV (i:=5) nd rfl rfl) xu)))))) B0.bl))⟩
  refine ⟨_,(xM (xf (xr (@PW.pt _ _ _ (cU (wo (wb (xc (wH) (by rfl) T.aZ zh (xK (xL (pv 1) (xL (cN (v:=V.ty "tuple") rfl T.iB yV rfl) xU rfl) rfl))))) (cC (xi ic (xc (xX rfl) (by rfl) T.bA PySem.boot_len (xK (xL (pv 1) xU rfl))) xO (aB _))))) (xM (xk (xZ eY))) xh) B1.bl)),?_⟩;rcases th with ⟨t,ht,nt,rfl⟩ | ⟨l,xs,rfl,hl,hx,rfl⟩
  ·refine (zr rfl ⟨x,t, "tuple", rfl,ht,.inr (.inr (.inr rfl)),zr rfl ?_⟩);refine aM ?_ (aM rfl q);rcases jA ht with rfl | rfl | rfl | rfl | rfl | rfl | rfl <;> first | rfl | exact absurd rfl nt
  ·refine (zr rfl ⟨_, "tuple", "tuple", rfl,jz hl,.inr (.inr (.inr rfl)),zr rfl (aD rfl ?_)⟩);refine (zr rfl ⟨l,zr rfl ⟨.inr (bC.of hl),rfl,zr rfl ?_⟩⟩);by_cases h4:xs.length=4
   ·obtain ⟨x0,x1,x2,x3,rfl⟩:=Mg h4;obtain ⟨t0,h0⟩:=hx x0 (by simp);obtain ⟨t1,h1⟩:=hx x1 (by simp);obtain ⟨t2,h2⟩:=hx x2 (by simp);obtain ⟨t3,h3⟩:=hx x3 (by simp);refine aD (by simp) ?_;refine (zr rfl (KU hl ?_));have q:Q (.bl (nV 0 ((af.length:Int) - 1) x0 && (nV 0 1000000000 x1 && (nV 0 ((af.length:Int) - 1) x2 && nV 0 1000000000 x3)))) H:=q;refine (zr rfl (zr rfl (vc b x0 t0 af tr tm ps ⟨rfl,hb,h0,zr rfl (o5 (λc0=>?_) (λc0=>by rw [c0] at q;exact q))⟩)));refine (zr rfl ⟨x1,t1,rfl,h1,zr rfl (o5 (λc1=>?_) (λc1=>by rw [c0,c1] at q;exact q))⟩);refine (zr rfl (zr rfl (vc b x2 t2 af tr tm ps ⟨rfl,hb,h2,zr rfl (o5 (λc2=>?_) (λc2=>by rw [c0,c1,c2] at q;exact q))⟩)));refine (zr rfl ⟨x3,t3,rfl,h3,?_⟩);rw [c0,c1,c2] at q;exact q
   ·refine aM ?_ ?_
    ·have:¬ V.int (xs.length:Int)=V.int 4:=λz=>h4 (by have:=V.int.inj z;omega);simp [this]
    ·have:isLet (af.length:Int) (some xs)=false:=by
      unfold isLet;split
      ·rename_i e;cases e;simp at h4
      ·rfl
     rw [this] at q;exact q
theorem CS:ay ["book", "sender", "since", "times", "came", "number", "giver", "other", "when"] ["book", "sender", "since"] (aq wF):=L2.bw
theorem CV (T:Tx K mg a ak ai ah)(B:aW mg base):aT P w K mg base cB 2 a.Ai a.Ax ["book", "sender", "since"] (vN):=by
 have Iq:=G6 P w base T B;have Jp:=Jd P w base T B;have Io:=G4 P w base T B;refine T.Ap.ok CS (λvs H Q E h=>?_) (λbK A outer s H vs Q E hr h=>?_)
 ·obtain ⟨b,k,x,_,_,_,_,rfl,_⟩:=h;rfl
 ·have nd:=CS.nd;have hu:=hr.units;obtain ⟨b,k,x,af,tr,tm,ps,rfl,hb,hn,gd,q⟩:=h;refine bU ?_;intro Y
  let B0:Bk Y (nb (nb (aj wF) 2) 0):=⟨_,(xM (xf (wc (pv 8) (iT (pv 3) (pv 7) set_list)) (xk (Lw (zx (Nat.add_le_add_left (by decide) _) hu) (pv 4) (pv 7) (xz (xK (xL (pv 5) (xL (pv 6) xU rfl) rfl))) rfl))))⟩
  let B1:Bk Y (nb (aj wF) 2):=⟨_,(xM (xk (xr (@PW.pt _ _ _ (gE (bZ (cE (xY (xW rfl) (pv 3) (pv 7) (λ_ _=>rfl)))) (fR (wb (xT Iq (hr.mono (by decide)) rfl T.HN T.HV T.Ic .nil av (xK (xL (xY (xW rfl) (pv 3) (pv 6) (λ_ _=>rfl)) (xL (pv 8) xU rfl) rfl))))))) B0.ps xh)))⟩
  let B2:Bk Y ((aj wF).drop 2):=⟨_,(xM (xf (wQ PassesOwn.never rfl (wf rfl (xT Jp (hr.mono (by decide)) rfl T.Jl T.Jm T.Jn .nil av (xK (xL (pv 0) xU rfl)))) (xv (n:=4) rfl rfl (xS (xV (i:=5) nd rfl rfl) (xS (xV (i:=6) nd rfl rfl) (xS (xV (i:=7) nd rfl rfl) (xS (xV (i:=8) nd rfl rfl) xu))))) B1.ps) (xk (xZ (xz (xK (xL (pv 3) (xL (pv 4) xU rfl) rfl)))))))⟩
  refine ⟨_,(xM (xf (xb (i:=3) nd rfl rfl (xT Io (hr.mono (by decide)) rfl T.HL T.HR T.HY .nil av (xK (xL (pv 0) (xL (pv 1) (xL (pv 2) xU rfl) rfl) rfl)))) (xf (xb (i:=4) nd rfl rfl Jv) B2.bl))),?_⟩;have line:=bI;have WT:=gd.len;refine (zr rfl (zr rfl (zr rfl (vc b k x af tr tm ps ⟨rfl,hb,hn,λl H1 hl tY h1=>?_⟩))));refine λd hd=>?_;have RX:d≠l:=(xQ h1 hd).symm;have P7:=tY.trans (xP (o:=HO.dK []) hd);have ZQ:H d=none:=tY.free hd;refine (zr rfl (ex5 b af tr tm ps ⟨rfl,hb.same P7,gd,λlw ws H2 Xe uZ h2 hr ew=>?_⟩));have XJ:=uZ _ _ (xP (o:=HO.dK []) hd _ _ h1);have Ma:=uZ _ _ (xN (H:=H1) (a:=d) (o:=HO.dK []));have OP:(ws.map (·.2)).map (·.w)=aQ (ps.map (·.2)):=by
   have:=tE (ps.map (·.2));rw [zA] at this;rw [ew,this]
  have lws:ws.length=2 * ps.length:=by
   have:=congrArg List.length OP;rw [zA,zA,tH,zA] at this;exact this
  have YI:lw≠l:=(xQ (xP (o:=HO.dK []) hd _ _ h1) Xe).symm;have YJ:lw≠d:=(xQ (xN (H:=H1) (a:=d) (o:=HO.dK [])) Xe).symm;refine ⟨lw,rfl,⟨_,aJ.of h2⟩,?_⟩;refine (let W7:IV:=λi σ H4=>(∃ v5 v6 v7 v8,σ=[some (.ref b),some (.int k),some (.int x),some (.ref l),some (.ref d),v5,v6,v7,v8])/\aA H H4/\H4 l=some (.lst ((rep af.length (((ws.take i).map (·.2.w)).foldl aF (aC k x))).map oV))/\(∃ aE,H4 d=some (.dK aE)/\aE.length<=i/\lH (ps.map (·.2)) k (((ws.take i).map (·.2.w)).foldl aF (aC k x)) aE H4)/\(∀ b u,b≠l->b≠d->H2 b=some u->H4 b=some u);fL (K:=K) (a:=lw) (xs:=(ws.map λa=>V.ref a.1)) W7)
   ?_ ?_ ?_ ?_
  ·exact ⟨⟨_,_,_,_,rfl⟩,P7.trans uZ,XJ,⟨[],Ma,zB _,λo t h=>.inl (by have h:aC k x o=some t:=h;unfold aC at h;split at h;assumption;cases h)⟩,λ_ _ _ _ e=>e⟩
  ·rintro i σ H4 _ ⟨_,_,_,_,kp⟩;exact aJ.of (kp lw _ YI YJ h2)
  ·rintro i y σ H4 hy ⟨⟨v5,v6,v7,v8,rfl⟩,nR,h4,⟨aE,OA,lk,cm⟩,kp⟩;obtain ⟨r,uF,rfl⟩:=wP hy;have hi:i < ws.length:=(zC.mp uF).1;have rm:r∈ws:=zD uF;have JX:=hr r rm;have nl:r.1≠l:=bY JX XJ (by intro z;cases z);have YO:r.1≠d:=bY JX Ma (by intro z;cases z);have f6:=kp r.1 _ nl YO JX;have wm:r.2.w∈aQ (ps.map (·.2)):=by
    rw [<-OP];exact zS.mpr ⟨r.2,zS.mpr ⟨r,rm,rfl⟩,rfl⟩
   obtain ⟨g1,g2,g3,g4,g5⟩:=iL gd wm;have gl:r.2.w.g < af.length:=by omega
   have ol:r.2.w.o < af.length:=by omega
   have fold:∀ f:Fn,((ws.take i).map (·.2.w)).foldl aF (aC k x)=f->((ws.take (i + 1)).map (·.2.w)).foldl aF (aC k x)=aF f r.2.w:=λf e=>by
    rw [wM uF,zF,yy,e];rfl
   refine (KU f6 ?_);generalize ef:((ws.take i).map (·.2.w)).foldl aF (aC k x)=f at h4 cm;have fo:=fold f ef;have hg:((rep af.length f).map oV)[r.2.w.g]?=some (oV (f r.2.w.g)):=wO gl;have ho:((rep af.length f).map oV)[r.2.w.o]?=some (oV (f r.2.w.o)):=wO ol;refine (zr rfl (zr rfl (bR h4 (xo ho) (zr rfl (dP (λc=>?_) (λc=>aD rfl ?_))))))
   ·have c':=gH.mp c;refine (zr rfl (zr rfl (bR h4 (xo hg) (zr rfl ⟨f r.2.w.g,r.2.w.t,rfl,zr rfl (o5 (λc2=>?_) (λc2=>?_))⟩))))
    ·refine (zr rfl (zr rfl (zr rfl ⟨l,_,_,r.2.w.o,rfl,rfl,h4,eL (by rw [zA,wn];exact ol),?_⟩)));refine (zr rfl (zr rfl ⟨by show 2<=sizeLine;omega,λtt u5=>(zr rfl (zr rfl ⟨d,zr rfl ⟨KR.k (k:=Sum.inl (r.2.w.o:Int)) (xP u5 _ _ (by rw [xR RX];exact OA)) (by omega),?_⟩⟩))⟩));have YM:l≠tt:=xQ (xN) u5;have Yu:=(aA.put (o:=HO.lst (((rep af.length f).map oV).set r.2.w.o (.int r.2.w.t))) hl nR).trans (xP (o:=HO.tup [.int r.2.n,.int r.2.w.g]) u5);have ZT:=xP (o:=HO.tup [.int r.2.n,.int r.2.w.g]) u5 _ _ (show (upd H4 l (HO.lst (((rep af.length f).map oV).set r.2.w.o (.int r.2.w.t)))) d=some (.dK aE) by rw [xR RX];exact OA);have YL:tt≠d:=(xQ (show (upd H4 l (HO.lst (((rep af.length f).map oV).set r.2.w.o (.int r.2.w.t)))) d=some (.dK aE) by rw [xR RX];exact OA) u5).symm;have Y7:cI (ps.map (·.2)) r.2.n r.2.w.g r.2.w.o r.2.w.t:=jH (i:=ps.length) (by rw [<-ew];exact zS.mpr ⟨r,rm,rfl⟩);have cmN:lH (ps.map (·.2)) k (((ws.take (i + 1)).map (·.2.w)).foldl aF (aC k x)) (putK aE (Sum.inl (r.2.w.o:Int)) (.ref tt)) (upd (upd (upd H4 l (HO.lst (((rep af.length f).map oV).set r.2.w.o (.int r.2.w.t)))) tt (HO.tup [.int r.2.n,.int r.2.w.g])) d (HO.dK (putK aE (Sum.inl (r.2.w.o:Int)) (.ref tt)))):=by
      rw [fo];unfold aF;rw [if_pos ⟨c',c2⟩];exact lH.step (x:=r.2) (cm.aR (((bL.set h4).trans (bL.new u5)).trans (bL.Uo ZT))) c' c2 Y7 (by rw [xR YL,xN])
     refine ⟨⟨_,_,_,_,rfl⟩,aA.put ZQ Yu,?_,⟨_,xN,zu (fG _ _ _) (by omega),cmN⟩,λb u nb WI e=>?_⟩
     ·rw [xR RX.symm,xR YM,xN,fo];unfold aF;rw [if_pos ⟨c',c2⟩,<- fQ ol,xJ];rfl
     ·rw [xR WI];exact xP u5 _ _ (by rw [xR nb];exact kp b u nb WI e)
    ·refine ⟨⟨_,_,_,_,rfl⟩,nR,?_,⟨aE,OA,by omega,by rw [fo];unfold aF;rw [if_neg λz=>by rw [z.2] at c2;cases c2];exact cm⟩,kp⟩;rw [fo];unfold aF;rw [if_neg λz=>by rw [z.2] at c2;cases c2];exact h4
   ·refine ⟨⟨_,_,_,_,rfl⟩,nR,?_,⟨aE,OA,by omega,by rw [fo];unfold aF;rw [if_neg λz=>c (gH.mpr z.1)];exact cm⟩,kp⟩;rw [fo];unfold aF;rw [if_neg λz=>c (gH.mpr z.1)];exact h4
  ·rintro σ H4 ⟨⟨v5,v6,v7,v8,rfl⟩,nR,h4,⟨aE,OA,lk,cm⟩,kp⟩;rw [zA,yD] at h4 cm;have e:((ws.map (·.2.w)).foldl aF (aC k x))=fwd (ps.map (·.2)) (aC k x):=by
    unfold fwd;rw [<-OP,yC];rfl
   rw [e] at h4 cm;exact (zr rfl (zr rfl ⟨by show 2<=sizeLine;omega,λtt u5=>q tt l d aE _ hl (nR.trans (xP u5)) xN (xP u5 _ _ h4) (xP u5 _ _ OA) (cm.aR (bL.new u5))⟩))
theorem CM:ay ["book", "sender", "since", "times", "came"] ["book", "sender", "since"] (aq BY):=L2.bw
theorem Ep (T:Tx K mg a ak ai ah)(B:aW mg base):aT P w K mg base cB 3 a.Ag a.At ["book", "sender", "since"] (rW):=by
 have Ct:=CV P w base T B;refine T.Ak.ok CM (λvs H Q E h=>?_) (λbK A outer s H vs Q E hr h=>?_)
 ·obtain ⟨b,k,x,_,_,_,_,rfl,_⟩:=h;rfl
 ·have nd:=CM.nd;have hu:=hr.units;obtain ⟨b,k,x,af,tr,tm,ps,rfl,hk,hb,hn,gd,q⟩:=h;refine ⟨_,(xM (xf (wc (xT Ct (hr.mono (by decide)) rfl T.Dq T.Dr T.Dt .nil av (xK (xL (pv 0) (xL (pv 1) (xL (pv 2) xU rfl) rfl) rfl))) (xv (n:=2) rfl rfl (xS (xV (i:=3) nd rfl rfl) (xS (xV (i:=4) nd rfl rfl) xu)))) (xk (xZ (pv 3))))),?_⟩;refine (zr rfl (zr rfl (zr rfl (vc b k x af tr tm ps ⟨rfl,hb,hn,gd,λt l d aE H1 hl sm ht h1 _ _=>?_⟩))));exact (rS ht (zr rfl (q l _ hl sm h1)))
theorem EW:ay ["book", "letter", "sender", "since", "wish", "last", "times", "came", "chain", "walker", "number"] ["book", "letter"] (aq wU):=L2.bw
theorem G7 (T:Tx K mg a ak ai ah)(B:aW mg base):aT P w K mg base cB 5 a.Bg a.Ce ["book", "letter"] (qB):=by
 have IL:=HJ P w base T B;have HD:=Gq P w base T B;have Ct:=CV P w base T B;refine T.BF.ok EW (λvs H Q E h=>?_) (λbK A outer s H vs Q E hr h=>?_)
 ·obtain ⟨b,lt,_,_,_,_,_,_,_,_,rfl,_⟩:=h;rfl
 ·have nd:=EW.nd;have hu:=hr.units;obtain ⟨b,lt,s0,w0,a0,z0,af,tr,tm,ps,rfl,hb,hn,gd,hL,qn,qy⟩:=h;refine bU ?_;intro Y
  let B0:Bk Y (nb (aj wU) 6):=⟨_,(xM (xf (wc (LB (zx (Nat.add_le_add_left (by decide) _) hu) (pv 7) (pv 9) (λ_ _=>rfl)) (xv (n:=2) rfl rfl (xS (xV (i:=10) nd rfl rfl) (xS (xV (i:=9) nd rfl rfl) xu)))) (xk (wl (dN zV zc zd wE (pv 8) (xK (xL (pv 10) xU rfl)))))))⟩
  let B1:Bk Y ((aj wU).drop 4):=⟨_,(xM (xf (xb (i:=8) nd rfl rfl (wA cj)) (xf (xb (i:=9) nd rfl rfl (pv 4)) (xf (oK PassesOwn.never (xi ic (pv 9) (pv 2) (aB _)) B0.ps) (xk (xZ (mV rfl (pv 8))))))))⟩
  let B2:Bk Y ((aj wU).drop 3):=⟨_,(xM (xf (xr (wo (wb (xT IL (hr.mono (by decide)) rfl T.IA T.ID T.IF .nil av (xK (xL (xY (xW rfl) (pv 6) (pv 4) (λ_ _=>rfl)) (xL (pv 5) xU rfl) rfl))))) (xM (xk (xZ cV))) xh) B1.bl))⟩
  let B3:Bk Y ((aj wU).drop 2):=⟨_,(xM (xf (wc (xT Ct (hr.mono (by decide)) rfl T.Dq T.Dr T.Dt .nil av (xK (xL (pv 0) (xL (pv 2) (xL (pv 3) xU rfl) rfl) rfl))) (xv (n:=2) rfl rfl (xS (xV (i:=6) nd rfl rfl) (xS (xV (i:=7) nd rfl rfl) xu)))) B2.bl))⟩
  let B4:Bk Y ((aj wU).drop 1):=⟨_,(xM (xf (wc (pv 1) (xv (n:=4) rfl rfl (xS (xV (i:=2) nd rfl rfl) (xS (xV (i:=3) nd rfl rfl) (xS (xV (i:=4) nd rfl rfl) (xS (xV (i:=5) nd rfl rfl) xu)))))) B3.bl))⟩
  refine ⟨_,(xM (xf (xr (wo (wb (xT HD (hr.mono (by decide)) rfl T.Ha T.Hg T.Hm .nil av (xK (xL (pv 0) (xL (pv 1) xU rfl) rfl))))) (xM (xk (xZ cV))) xh) B4.bl)),?_⟩;have line:=bI;obtain ⟨cY,QO,U9,_⟩:=id hL;refine (zr rfl (zr rfl (vc b (.ref lt) _ af tr tm ps ⟨rfl,hb,hL.th,zr rfl (aD (by rw [hL.yes];rfl) ?_)⟩)));refine (zr rfl (KU cY ?_));refine (zr rfl (zr rfl (zr rfl (vc b s0 a0 af tr tm ps ⟨rfl,hb,hn,gd,λt l d aE H1 hl tY ht h1 hd cm=>(rS ht ?_)⟩))));generalize eE:fwd (ps.map (·.2)) (aC s0 a0)=E0 at qn qy h1 cm;have er:=mw (s:=s0) (x:=a0) gd;rw [eE] at er;refine (zr rfl (zr rfl (bR h1 (xo (wO U9)) (zr rfl ⟨E0 w0,z0,rfl,zr rfl (o5 (λc=>?_) (λc=>?_))⟩))))
  ·exact qn (by cases e:bJ (E0 w0) z0 with
    | false=>rfl
    | true=>rw [e] at c;cases c) _ tY
  obtain ⟨ew,Xo,Za⟩:∃ e,E0 w0=some e/\e<=z0:=aK.mp (by cases e:bJ (E0 w0) z0 with
    | true=>rfl
    | false=>rw [e] at c;cases c)
  refine ⟨zY _,λlc qW=>(zr rfl ?_)⟩;have Vs:H lc=none:=tY.free qW;refine vn (fun σ H4=>∃ (v:Nat) (e:Int) (cs:List Int),∃ v10,σ=[some (.ref b),some (.ref lt),some (.int s0),some (.int a0),some (.int w0),some (.int z0),some (.ref l),some (.ref d),some (.ref lc),some (.int v),v10]/\E0 v=some e/\H4 lc=some (.lst (List.map V.int cs.reverse)) /\
    (∀ b u,b≠lc->H1 b=some u->H4 b=some u)/\cs.length + lS af.length E0 e<=af.length /\
    (∀ A:Int,(A=-1\/∃ n:Nat,∃ m,A=n/\(ps.map (·.2))[n]?=some m/\m.t<=e)->lI (ps.map (·.2)) v e A cs=some (w0,ew)))
   (fun σ _=>mu af.length E0 σ) ?_ ?_ ?_
  ·exact ⟨w0,ew,[],zr rfl ⟨Xo,xN,λb u nb e=>by rw [xR nb];exact e,by have:=Lu af.length E0 ew;simpa using this,λA _=>rfl⟩⟩
  ·rintro σ H4 ⟨v,e,cs,v10,rfl,he,hc,kp,lrk,wk⟩;refine (zr rfl (zr rfl ⟨rfl,zr rfl ?_⟩));by_cases hv:v=s0
   ·subst hv;rw [er.self] at he;cases he;refine JU rfl ?_;refine (zr rfl ⟨lc,zr rfl ⟨aJ.of hc,λlr Oj=>?_⟩⟩);have e1:(List.map V.int cs.reverse).reverse=List.map V.int cs:=by rw [<-List.map_reverse,List.reverse_reverse]
    rw [e1];have Wv:aA H H4:=λb u eb=>kp b u (xQ eb Vs) (tY b u eb);exact qy ew lr cs _ Xo Za (Wv.free Oj) (Wv.trans (xP Oj)) xN (by omega) (wk (-1) (.inl rfl))
   ·refine aM (by have:¬ V.int (v:Int)=V.int (s0:Int):=λz=>hv (by have:=V.int.inj z;omega);simp [this]) ?_;obtain Va | ⟨tt,n,g,y,c1,c2,c3,c4,c5⟩:=cm v e he
    ·exact absurd Va hv
    obtain ⟨gi,vi,gv⟩:=c3.inside gd;have ZU:=kp d _ (λz=>by rw [z] at hd;rw [hd] at qW;cases qW) hd;have Vc:=kp tt _ (λz=>by rw [z] at c2;rw [c2] at qW;cases qW) c2;have dg:rO H4 d (.int (v:Int)) (some (.ref tt)):=by
     have:=rO.k (k:=Sum.inl (v:Int)) ZU;rw [c1] at this;exact this
    have rl:=Ls gi c4 c5;refine (zr rfl (zr rfl ⟨d,.ref tt,rfl,dg,rS Vc ?_⟩));refine (zr rfl ⟨.inl ⟨rfl,_,aJ.of hc⟩,zr rfl ⟨lc,aG rfl rfl ⟨hc,by rw [zA,yY];omega,⟨g,y,(n:Int)::cs,zr rfl ⟨c4,?_,λb u nb eb=>by rw [xR nb];exact kp b u nb eb,by rw [zZ];omega,λA hA=>?_⟩⟩,?_⟩⟩⟩)
    ·rw [xN,yw,zF];rfl
    ·obtain ⟨m,hm,mt,_⟩:=id c3;have an:A < n:=by
      rcases hA with rfl | ⟨n',m',rfl,pe,lt'⟩
      ·omega
      ·have:=N9 gd.ord.2 pe hm (by omega);omega
     rw [tK c3 gv c5 an];exact wk n (.inr ⟨n,m,rfl,hm,by omega⟩)
    ·show mu af.length E0 _ < mu af.length E0 _;unfold mu;simp only [yo,yn,yK,yW,yG,c4,he];exact rl
  ·rintro σ H4 Q1 Q2 hq ⟨x,hx,y,hy,ZD,k1,ZJ,h⟩;exact ⟨x,hx,y,hy,ZD,k1,ZJ,hq _ _ h⟩
theorem DQ:ay ["book", "wishes", "stretch", "walker", "some", "left", "number", "wished", "last"] ["book", "wishes", "stretch", "walker", "some"] (aq wX):=L2.bw
theorem DZ (T:Tx K mg a ak ai ah)(B:aW mg base):aT P w K mg base cB 2 a.AA a.Bt ["book", "wishes", "stretch", "walker", "some"] (tQ):=by
 have ER:=Fq P w base T B;have FK:=Fb P w base T B;refine T.AY.ok DQ (λvs H Q E h=>?_) (λbK A outer s H vs Q E hr h=>?_)
 ·obtain ⟨_,_,_,_,_,_,_,_,_,_,rfl,_⟩:=h;rfl
 ·have nd:=DQ.nd;have hu:=hr.units;obtain ⟨b,l,j,w0,s,af,tr,tm,ps,ws,rfl,cx,hs,q⟩:=h;refine bU ?_;intro Y
  let B0:Bk Y (nb (nb (aj wX) 1) 0):=⟨_,(xM (xk (xb (i:=5) nd rfl rfl (xT FK (hr.mono (by decide)) rfl T.Fu T.Fx T.FA .nil av (xK (xL (pv 5) (xL (pv 6) xU rfl) rfl))))))⟩
  let B1:Bk Y (nb (aj wX) 1):=⟨_,(xM (xk (xr (@PW.pt _ _ _ (gE (xi bX (pv 7) (pv 3) (aB _)) (fR (xi gc (pv 2) (xT ER (hr.mono (by decide)) rfl T.Gg T.Gi T.Gk .nil av (xK (xL (pv 0) (xL (pv 8) xU rfl) rfl))) (aB _))))) B0.ps xh)))⟩
  let B2:Bk Y ((aj wX).drop 1):=⟨_,(xM (xf (wQ PassesOwn.never rfl (jW rfl rfl T.dw (xK (xL (pv 1) xU rfl))) (xv (n:=2) rfl rfl (xS (xV (i:=6) nd rfl rfl) (xS (xv (n:=2) rfl rfl (xS (xV (i:=7) nd rfl rfl) (xS (xV (i:=8) nd rfl rfl) xu))) xu))) B1.ps) (xk (xZ (pv 5)))))⟩
  refine ⟨_,(xM (xf (xb (i:=5) nd rfl rfl (pv 4)) B2.bl)),?_⟩;have line:=bI;have w4:=cx.w4;have RY:=cx.gd.len;refine (zr rfl (zr rfl ⟨l,rfl,⟨_,aJ.of cx.wa.1⟩,?_⟩));refine (let W8:IV:=λi σ H5=>∃ lf:Nat,(∃ v6 v7 v8,σ=[some (.ref b),some (.ref l),some (.int (j:Int)),some (.int (w0:Int)),some (.int (s:Int)),some (.int (lf:Int)),v6,v7,v8])/\(∀ k,lf.testBit k=(s.testBit k && !(decide (k < i) && dm (ps.map (·.2)) (wq ws) j w0 k)))/\aA H H5;iZ (K:=K) (a:=l) (xs:=ws.map λa=>V.ref a.1) W8 ⟨s,⟨_,_,_,rfl⟩,λk=>by simp,aA.refl _⟩ ?_ ?_ ?_)
  ·rintro i σ H5 _ ⟨_,_,_,s5⟩;exact aJ.of (s5 _ _ cx.wa.1)
  ·rintro i v q0 σ H5 hv hq ⟨lf,⟨v6,v7,v8,rfl⟩,bits,s5⟩;obtain ⟨x,hx,rfl⟩:=wP hv;have i4:i < ws.length:=(zC.mp hx).1;have s6:=s5.trans (xP (o:=HO.tup [V.int (i:Int),V.ref x.1]) hq);have kq:upd H5 q0 (HO.tup [V.int (i:Int),V.ref x.1]) q0=some (.tup [V.int (i:Int),V.ref x.1]):=xN;generalize upd H5 q0 (HO.tup [V.int (i:Int),V.ref x.1])=H6 at s6 kq ⊢;have K4:=cx.same s6;obtain ⟨kx,lx⟩:=K4.wa.2 x (zD hx);have dn:=Mk (ms:=ps.map (·.2)) (j:=j) (w:=w0) hx;have gA:dm (ps.map (·.2)) (wq ws) j w0 i=false->∀ k,lf.testBit k=(s.testBit k && !(decide (k < i + 1) && dm (ps.map (·.2)) (wq ws) j w0 k)):=λd k=>by
    rw [bits k];by_cases e:k=i
    ·subst e;rw [d];simp
    ·simp [show (k < i + 1)=(k < i) from propext ⟨λh=>by omega,λh=>by omega⟩]
   refine ⟨q0,zr rfl ⟨bC.of kq,rfl,mO rfl (mO rfl (rS kx ⟨rfl,?_⟩))⟩⟩;refine (zr rfl (zr rfl ⟨rfl,zr rfl ?_⟩));by_cases e1:x.2.1=w0
   ·refine aM (decide_eq_true (by rw [e1])) (zr rfl (zr rfl (zr rfl (VW b x.2.2 af tr tm ps ⟨rfl,K4.bk,by omega,λH7 s7=>(aG rfl rfl (zr rfl ?_))⟩))));refine dP (λc=>?_) (λc=>⟨lf,⟨_,_,_,rfl⟩,gA (by rw [dn,decide_eq_false (p:=j<=_) (by omega),yk]),s6.trans s7⟩);refine (zr rfl (zr rfl ⟨lf,i,rfl,by omega,iX lf i,⟨_,_,_,rfl⟩,λk=>?_,s6.trans s7⟩));rw [JN,bits k];by_cases e:k=i
    ·subst e;rw [dn,decide_eq_true e1,decide_eq_true (p:=j<=_) (by omega)];simp
    ·simp [show (k < i + 1)=(k < i) from propext ⟨λh=>by omega,λh=>by omega⟩,e]
   ·refine aD (decide_eq_false (λz=>e1 (Int.ofNat.inj (V.int.inj z)))) (aD rfl ⟨lf,⟨_,_,_,rfl⟩,gA (by rw [dn,decide_eq_false e1,yL]),s6⟩)
  ·rintro σ H5 ⟨lf,⟨v6,v7,v8,rfl⟩,bits,s5⟩;refine (zr rfl ?_);have e:lf=az (ps.map (·.2)) (wq ws) j w0 s:=zw λk=>by
    rw [bits k,wg (by rw [dB];exact hs),zA];by_cases e:k < ws.length
    ·simp [e]
    ·rw [done_none (by rw [dB];omega)];simp
   rw [e];exact q _ s5
theorem G3:ay ["book", "stretch", "walker", "some", "following", "price", "other"] ["book", "stretch", "walker", "some", "following"] (aq CN):=L2.bw
theorem IN (T:Tx K mg a ak ai ah)(B:aW mg base):aT P w K mg base cB 2 a.CO a.DP ["book", "stretch", "walker", "some", "following"] (tW):=by
 have Ec:=EY P w base T B;have FL:=Gd P w base T B;refine T.Dl.ok G3 (λvs H Q E h=>?_) (λbK A outer s H vs Q E hr h=>?_)
 ·obtain ⟨_,_,_,_,_,_,_,_,_,_,_,rfl,_⟩:=h;rfl
 ·have nd:=G3.nd;have hu:=hr.units;obtain ⟨b,j,w0,s,v,af,tr,tm,ps,sz,F,rfl,hb,gd,ud,hw,hs,Yz,fo,hF,q⟩:=h;refine bU ?_;intro Y
  let B0:Bk Y ((nb (aj CN) 3).drop 1):=⟨_,(xM (xk (xb (i:=5) nd rfl rfl (xc (uT rfl) (by rfl) T.pX yd (xK (xL (xg qM (wA (xK (xL (pv 5) xU rfl))) (dh (own:=["part", "rest"]) (caps:=[4,6,2]) rfl (show bq ["part", "rest"] [4,6,2] ["book", "stretch", "walker", "some", "following", "price", "other"] (aq CN) _ from L2.nE) (wf rfl (xT FL (hr.mono (by decide)) rfl T.G9 T.Hf T.Hl .nil av (xK (xL (pv 3) xU rfl)))) (λ_ _ _ _=>(xv (n:=2) rfl rfl (xS (xV (i:=0) (show List.Nodup (["part", "rest", "following", "other", "walker"]:List Str) from by decide +kernel) rfl rfl) (xS (xV (i:=1) (show List.Nodup (["part", "rest", "following", "other", "walker"]:List Str) from by decide +kernel) rfl rfl) xu)))) (λ_ _ _ _=>dZ) (λ_ _ _ _=>(xg xt (xg xt xO (xY (xW rfl) (xY (xW rfl) (pv 2) (pv 4) (λ_ _=>rfl)) (pv 0) (λ_ _=>rfl))) (xY (xW rfl) (xY (xW rfl) (pv 2) (pv 3) (λ_ _=>rfl)) (pv 1) (λ_ _=>rfl)))))) xU rfl))))))⟩
  let B1:Bk Y (nb (aj CN) 3):=⟨_,(xM (xf (xb (i:=6) nd rfl rfl (xT Ec (hr.mono (by decide)) rfl T.Fv T.Fy T.FB .nil av (xK (xL (pv 0) (xL (pv 1) (xL (pv 2) xU rfl) rfl) rfl)))) B0.bl))⟩
  let B2:Bk Y ((aj CN).drop 3):=⟨_,(xM (xf (xr (xi (cu rfl) (pv 2) (dM (rX rfl) (xY (xj rfl) (xY (xj rfl) (pv 0) xO (λ_ _=>rfl)) (pv 1) (λ_ _=>rfl)) fT (d9 xO)) rfl) B1.ps xh) (xk (xZ (pv 5)))))⟩
  let B3:Bk Y ((aj CN).drop 1):=⟨_,(xM (xf (xr (bZ (cE (pv 4))) (xM (xk (xZ (xg xt (xc (xX rfl) (by rfl) T.bA PySem.boot_len (xK (xL (xY (xj rfl) (pv 0) xO (λ_ _=>rfl)) xU rfl))) xO)))) xh) (xf (xb (i:=5) nd rfl rfl (xY (xW rfl) (xY (xW rfl) (pv 4) (pv 2) (λ_ _=>rfl)) (pv 3) (λ_ _=>rfl))) B2.bl)))⟩
  refine ⟨_,(xM (xf (xr (xi bX (pv 3) xO (aB _)) (xM (xk (xZ xO))) xh) B3.bl)),?_⟩;have line:=bI;have RY:=gd.len;refine (zr rfl ⟨rfl,zr rfl ?_⟩);by_cases s0:s=0
  ·exact aM (decide_eq_true (by rw [s0];rfl)) (q 0 _ (aA.refl _) (.inl ⟨s0,rfl⟩))
  refine aD (decide_eq_false (λz=>s0 (Int.ofNat.inj (V.int.inj z)))) ?_;rcases fo with ⟨rfl,rfl⟩ | ⟨lf,A,rfl,kA,lA,rA,rfl⟩
  ·refine (zr rfl (zr rfl (aM rfl (zr rfl (cH hb.book rfl ⟨tm,zr rfl ⟨.inr (bC.of hb.meets),aG rfl rfl ?_⟩⟩)))));refine q _ _ (aA.refl _) (.inr ⟨s0,?_⟩);rw [zA,zA]
  have jn:=hF _ rfl;obtain ⟨b1,lC⟩:∃ r,A[w0]?=some r:=⟨_,zI (by omega)⟩;have UQ:=zD lC;have F1:∀ s',((A.map (·.2)).getD w0 []).getD s' 0=b1.2.getD s' 0:=λs'=>by
   have:(A.map (·.2)).getD w0 []=b1.2:=by rw [zb,zG,lC];rfl
   rw [this]
  have lb1:=(rA b1 UQ).2;obtain ⟨xm,LV⟩:∃ x,ps[j]?=some x:=⟨_,zI jn⟩;have WN:=zD LV;refine (zr rfl (zr rfl (aD rfl (zr rfl (zr rfl (bR kA (xo (by rw [zG,lC];rfl)) (zr rfl (bR ((rA b1 UQ).1) (fM (by omega)) ?_))))))));have kx:=hb.rows xm WN;have fx:=gd.at WN;obtain ⟨lo,elo⟩:=zg fx.1;obtain ⟨hi,ehi⟩:∃ n:Nat,xm.2.hi=n:=zg (by omega);refine (zr rfl (zr rfl (cH hb.book rfl (zr rfl (cH hb.meets (xo (by rw [zG,LV];rfl)) (zr rfl ⟨xm.1,zr rfl ⟨bC.of kx,(by show ¬ (HT.bW 4 0 none=0/\HT.bW 4 4 (some 2)=4);decide),λp2 Od=>?_⟩⟩))))));rw [show jx xm.2.vs none (some 2)=[V.int xm.2.lo,V.int xm.2.hi] from rfl];have s2:=xP (o:=HO.tup [V.int xm.2.lo,V.int xm.2.hi]) Od;have F2:∀ {o:Nat}{d:nP},A[o]?=some d->∀ s',((A.map (·.2)).getD o []).getD s' 0=d.2.getD s' 0:=λ{o d} h s'=>by
   have:(A.map (·.2)).getD o []=d.2:=by rw [zb,zG,h];rfl
   rw [this]
  have hm:=LK LV;refine ⟨p2,[.int xm.2.lo,.int xm.2.hi],rfl,.inr (bC.of xN),rfl,rfl,zr rfl ?_⟩;rw [show uE (V.int (w0:Int)) [V.int xm.2.lo,V.int xm.2.hi]=(decide ((w0:Int)=xm.2.lo) || decide ((w0:Int)=xm.2.hi)) from fH];refine kZ (fun σ H'=>∃ x:Int,(∃ v6,σ=[some (.ref b),some (.int (j:Int)),some (.int (w0:Int)),some (.int (s:Int)),some (.ref lf),some (.int x),v6])/\aA H H'/\dz (ps.map (·.2)) j (some λw s=>(((A.map (·.2)).getD w []).getD s 0)) w0 s x) ?_ (λc k0=>?_) (λc=>⟨_,⟨_,rfl⟩,s2,.inr ⟨s0,.inl ⟨λo t l=>?_,(F1 s).symm⟩⟩⟩)
  ·rintro σ H' ⟨x,⟨v6,rfl⟩,s',lx⟩;exact (zr rfl (q x H' s' lx))
  ·generalize upd H p2 _=H2 at s2 ⊢;obtain ⟨o,eo,lk⟩:∃ o:Nat,(if (w0:Int)=xm.2.lo then xm.2.hi else xm.2.lo)=(o:Int)/\cI (ps.map (·.2)) j w0 o xm.2.t:=by
    have c:(decide ((w0:Int)=xm.2.lo) || decide ((w0:Int)=xm.2.hi))=true:=c;rw [yX,decide_eq_true_eq,decide_eq_true_eq] at c;by_cases e:(w0:Int)=xm.2.lo
    ·exact ⟨hi,by rw [if_pos e,ehi],xm.2,hm,rfl,.inl ⟨by omega,by omega⟩⟩
    ·exact ⟨lo,by rw [if_neg e,elo],xm.2,hm,rfl,.inr ⟨by omega,by omega⟩⟩
   have oW:o < af.length:=(lk.inside gd).2.1;obtain ⟨d1,Si⟩:∃ r,A[o]?=some r:=⟨_,zI (by omega)⟩;have WR:=zD Si;have ld1:=(rA d1 WR).2;refine (zr rfl (zr rfl (zr rfl (XU b j w0 af tr tm ps xm.2 ⟨rfl,hb.same s2,hm,?_⟩))));rw [eo];refine (zr rfl ⟨by show 1<=sizeLine;omega,λl1 y1=>?_⟩);have w1:=xP (o:=HO.lst [V.int (b1.2.getD s 0)]) y1;have u1:upd H2 l1 (HO.lst [V.int (b1.2.getD s 0)]) l1=some (.lst [V.int (b1.2.getD s 0)]):=xN;generalize upd H2 l1 _=H3 at w1 u1 ⊢;refine (zr rfl ⟨s,rfl,by omega,λls rs H4 s4 kl kr es=>?_⟩);have Wx:=(s2.trans w1).trans s4;refine ⟨ls,rfl,⟨_,aJ.of kl⟩,?_⟩;have ln:=split_len s;have Y6:rs.length<=s + 1:=by rw [<-es,zA] at ln;exact ln
   refine (let W9:IC:=λi τ acc H5=>(∃ t0 t1,τ=[t0,t1,some (.ref lf),some (.int (o:Int)),some (.int (w0:Int))])/\acc=((rs.take i).map λr=>1 + b1.2.getD r.2.1 0 + d1.2.getD r.2.2 0).map V.int/\aA H4 H5;dR (K:=K) (a:=ls) (xs:=rs.map λr=>V.ref r.1) W9 ⟨⟨_,_,rfl⟩,rfl,aA.refl _⟩ (by rw [zA];omega) ?_ ?_ ?_)
   ·rintro i τ acc H5 ⟨_,rfl,s5⟩;refine ⟨?_,aJ.of (s5 _ _ kl)⟩;rw [zA,zA,zk];omega
   ·rintro i v τ acc H5 C hv ⟨⟨t0,t1,rfl⟩,rfl,s5⟩ hC;obtain ⟨r,hr,rfl⟩:=wP hv;have mr:=zD hr;have r2:=split_le (s:=s) (r:=r.2) (by rw [<-es];exact yO mr);have Mw:=Wx.trans s5;refine (rS (s5 _ _ (kr r mr)) ?_);refine (zr rfl (zr rfl (bR (Mw _ _ kA) (xo (by rw [zG,lC];rfl)) (zr rfl (bR (Mw _ _ (rA b1 UQ).1) (fM (by omega)) (aG rfl rfl ?_))))));refine (zr rfl (zr rfl (bR (Mw _ _ kA) (xo (by rw [zG,Si];rfl)) (zr rfl (bR (Mw _ _ (rA d1 WR).1) (fM (by omega)) (aG rfl rfl (hC _ _ _ ⟨⟨_,_,rfl⟩,?_,s5⟩)))))));rw [wM hr,zF,zF];rfl
   ·rintro τ acc H5 ⟨⟨t0,t1,rfl⟩,rfl,s5⟩ lc qW;rw [zA,yD];have w6:=xP (o:=HO.lst ((rs.map λr=>1 + b1.2.getD r.2.1 0 + d1.2.getD r.2.2 0).map V.int)) qW;have u6:upd H5 lc (HO.lst ((rs.map λr=>1 + b1.2.getD r.2.1 0 + d1.2.getD r.2.2 0).map V.int)) lc=some (.lst ((rs.map λr=>1 + b1.2.getD r.2.1 0 + d1.2.getD r.2.2 0).map V.int)):=xN;generalize upd H5 lc _=H6 at w6 u6 ⊢;refine ⟨l1,lc,aG rfl rfl ⟨w6 _ _ (s5 _ _ (s4 _ _ u1)),u6,by rw [zA,zA];show 1 + _<=_;omega,λl2 y2=>?_⟩⟩;have w7:=xP (o:=HO.lst ([V.int (b1.2.getD s 0)]++(rs.map λr=>1 + b1.2.getD r.2.1 0 + d1.2.getD r.2.2 0).map V.int)) y2;refine ⟨l2,b1.2.getD s 0::rs.map λr=>1 + b1.2.getD r.2.1 0 + d1.2.getD r.2.2 0,rfl,aJ.of xN,Nat.succ_pos _,λM hM mn=>?_⟩;refine k0 _ _ ⟨M,⟨_,rfl⟩,((Wx.trans s5).trans w6).trans w7,.inr ⟨s0,.inr ⟨o,xm.2.t,lk,?_,λp sp=>?_,?_⟩⟩⟩
    ·dsimp only;rw [F1];exact mn _ (.head _)
    ·have:(p,s - p)∈rs.map (·.2):=by rw [es];exact cR.mpr ⟨⟨sp.le,dH.mpr sp⟩,rfl⟩
     obtain ⟨r',uG,e'⟩:=zS.mp this;have:=mn _ (zp _ (yO uG));rw [e'] at this;dsimp only;rw [F1,F2 Si];exact this
    ·rcases zP.mp hM with e | e
     ·exact .inl (by dsimp only;rw [F1];exact e)
     ·obtain ⟨r',uG,e'⟩:=zS.mp e;have mr:r'.2∈fz s:=by rw [<-es];exact yO uG
      obtain ⟨r0,p,q0⟩:=r';obtain ⟨⟨_,b2⟩,rfl⟩:=cR.mp mr;exact .inr ⟨p,dH.mp b2,by dsimp only;rw [F1,F2 Si];exact e'.symm⟩
  ·have c:(decide ((w0:Int)=xm.2.lo) || decide ((w0:Int)=xm.2.hi))=false:=c;rw [Bool.or_eq_false_iff,decide_eq_false_iff_not,decide_eq_false_iff_not] at c;obtain ⟨m',pe,_,cc⟩:=l;rw [hm] at pe;cases pe;rcases cc with ⟨a1,a2⟩ | ⟨a1,a2⟩ <;> omega
theorem Ga:ay ["book", "wishes", "stretch", "walker", "following", "row", "some", "left"] ["book", "wishes", "stretch", "walker", "following"] (aq CU):=L2.bw
theorem Iy (T:Tx K mg a ak ai ah)(B:aW mg base):aT P w K mg base cB 3 a.Cp a.CZ ["book", "wishes", "stretch", "walker", "following"] (Lh):=by
 have FN:=Ge P w base T B;have Dj:=DZ P w base T B;have Ji:=IN P w base T B;refine T.CK.ok Ga (λvs H Q E h=>?_) (λbK A outer s H vs Q E hr h=>?_)
 ·obtain ⟨_,_,_,_,_,_,_,_,_,_,_,rfl,_⟩:=h;rfl
 ·have nd:=Ga.nd;have hu:=hr.units;obtain ⟨b,l,j,w0,v,af,tr,tm,ps,ws,F,rfl,cx,hw,fo,hF,q⟩:=h;refine bU ?_;intro Y
  let B0:Bk Y ((nb (aj CU) 1).drop 1):=⟨_,(xM (xk (wl (dN zV zc zd wE (pv 5) (xK (xL (ia (xi bX (pv 7) (pv 6) (aB _)) (xT Ji (hr.mono (by decide)) rfl T.Je T.Jf T.Jg .nil av (xK (xL (pv 0) (xL (pv 2) (xL (pv 3) (xL (pv 6) (xL (pv 4) xU rfl) rfl) rfl) rfl) rfl))) (xY (xW rfl) (pv 5) (pv 7) (λ_ _=>rfl))) xU rfl))))))⟩
  let B1:Bk Y (nb (aj CU) 1):=⟨_,(xM (xf (xb (i:=7) nd rfl rfl (xT Dj (hr.mono (by decide)) rfl T.Et T.Ev T.Ex .nil av (xK (xL (pv 0) (xL (pv 1) (xL (pv 2) (xL (pv 3) (xL (pv 6) xU rfl) rfl) rfl) rfl) rfl)))) B0.bl))⟩
  let B2:Bk Y ((aj CU).drop 1):=⟨_,(xM (xf (wQ PassesOwn.never rfl (b9 rfl T.cz (xK (xL (xg xt (xT FN (hr.mono (by decide)) rfl T.Hb T.Hh T.Hn .nil av (xK (xL (pv 1) xU rfl))) xO) xU rfl))) (xV (i:=6) nd rfl rfl) B1.ps) (xk (xZ (pv 5)))))⟩
  refine ⟨_,(xM (xf (xb (i:=5) nd rfl rfl (wA cj)) B2.bl)),?_⟩;have line:=bI;have w4:=cx.w4;have UC:=MA w4;have p0:=yg ws.length;refine ⟨zY _,λlr Oj=>?_⟩;have s1:=xP (o:=HO.lst []) Oj;have k1:upd H lr (HO.lst []) lr=some (.lst []):=xN;generalize upd H lr (HO.lst [])=H1 at s1 k1 ⊢;refine (zr rfl ⟨l,ws,zr rfl ⟨(cx.same s1).wa,by omega,aG rfl rfl ?_⟩⟩);refine ⟨((2 ^ ws.length:Nat):Int),?_,by omega,by omega,?_⟩
  ·show [V.int (((2 ^ ws.length:Nat):Int) - 1 + 1)]=_;rw [Int.sub_add_cancel]
  rw [yG];refine (let W10:IV:=λs σ H5=>∃ r:List Int,(∃ v6 v7,σ=[some (.ref b),some (.ref l),some (.int (j:Int)),some (.int (w0:Int)),some v,some (.ref lr),v6,v7])/\aA H H5/\H5 lr=some (.lst (r.map V.int))/\r.length=s/\∀ s',s' < s->(az (ps.map (·.2)) (wq ws) j w0 s'=s'->dz (ps.map (·.2)) j F w0 s' (r.getD s' 0))/\r.getD s' 0=r.getD (az (ps.map (·.2)) (wq ws) j w0 s') 0;dQ (lo:=0) (n:=2 ^ ws.length) W10 ⟨[],⟨_,_,rfl⟩,s1,k1,rfl,(λj z=>absurd z (zv _))⟩ ?_ ?_)
  ·rintro s σ H5 hs ⟨r,⟨v6,v7,rfl⟩,s5,k5,Pk,old⟩;rw [Int.zero_add];have MN:=cx.same s5;have Pp:s < 2 ^ (wq ws).length:=by rw [dB];exact hs
   have ole:=(wK (ms:=ps.map (·.2)) (ws:=wq ws) (j:=j) (w:=w0) Pp).le;refine (zr rfl (zr rfl (zr rfl (zr rfl (zr rfl (ON b l j w0 s af tr tm ps ws ⟨rfl,MN,hs,λH6 s6=>?_⟩))))));have Ph:=s5.trans s6;have k6:=s6 _ _ k5;refine (zr rfl ⟨.inl ⟨rfl,_,aJ.of k6⟩,zr rfl (zr rfl ⟨rfl,zr rfl ?_⟩)⟩);have put:∀ {H':Hp}{o:HO},aA H H'->aA H (upd H' lr o):=λs a u e=>by rw [xR (xQ e Oj)];exact s a u e
   by_cases e1:az (ps.map (·.2)) (wq ws) j w0 s=s
   ·refine aM (decide_eq_true (by rw [e1])) (zr rfl (zr rfl (zr rfl (zr rfl (zr rfl (OM b j w0 s v af tr tm ps (2 ^ ws.length) F ⟨rfl,(MN.same s6).bk,cx.gd,cx.ud,hw,hs,UC,fo.same Ph,hF,λx H7 s7 lx=>?_⟩))))));refine ⟨lr,aG rfl rfl ⟨s7 _ _ k6,by rw [zA];omega,r++[x],⟨_,_,rfl⟩,put (Ph.trans s7),by rw [xN,zF];rfl,by rw [zO,Pk];rfl,jS Pk Pp old (λ_=>lx) (λn=>absurd e1 n)⟩⟩
   ·refine aD (decide_eq_false (λz=>e1 (Int.ofNat.inj (V.int.inj z)))) (zr rfl (zr rfl (bR k6 (fM (by omega)) ?_)));refine ⟨lr,aG rfl rfl ⟨k6,by rw [zA];omega,r++[_],⟨_,_,rfl⟩,put Ph,by rw [xN,zF];rfl,by rw [zO,Pk];rfl,jS Pk Pp old (λn=>absurd n e1) (λ_=>rfl)⟩⟩
  ·rintro σ H5 ⟨r,⟨v6,v7,rfl⟩,s5,k5,Pk,old⟩;exact (zr rfl (q lr r H5 s5 Oj k5 Pk λs hs=>old s (by rw [dB] at hs;exact hs)))
theorem Do:ay ["book", "wishes", "prices", "stretch", "following"] ["book", "wishes"] (aq wL):=L2.bw
theorem Fc (T:Tx K mg a ak ai ah)(B:aW mg base):aT P w K mg base cB 4 a.Am a.AM ["book", "wishes"] (qx):=by
 have Jc:=Iy P w base T B;refine T.Av.ok Do (λvs H Q E h=>?_) (λbK A outer s H vs Q E hr h=>?_)
 ·obtain ⟨_,_,_,_,_,_,_,rfl,_⟩:=h;rfl
 ·have nd:=Do.nd;have hu:=hr.units;obtain ⟨b,l,af,tr,tm,ps,ws,rfl,cx,q⟩:=h;refine bU ?_;intro Y
  let B0:Bk Y ((nb (aj wL) 1).drop 1):=⟨_,(xM (xk (wl (dN zV zc zd wE (pv 2) (xK (xL (dh (own:=["walker"]) (caps:=[0,1,3,4]) rfl (show bq ["walker"] [0,1,3,4] ["book", "wishes", "prices", "stretch", "following"] (aq wL) _ from L2.nE) (b9 rfl T.cz (xK (xL (xc (xX rfl) (by rfl) T.bA PySem.boot_len (xK (xL (xY (xj rfl) (pv 0) xO (λ_ _=>rfl)) xU rfl))) xU rfl))) (λ_ _ _ _=>(xV (i:=0) (show List.Nodup (["walker", "book", "wishes", "stretch", "following"]:List Str) from by decide +kernel) rfl rfl)) (λ_ _ _ _=>dZ) (λ_ _ _ _=>(xT Jc (hr.mono (by decide)) rfl T.IQ T.IS T.IU .nil av (xK (xL (pv 1) (xL (pv 2) (xL (pv 3) (xL (pv 0) (xL (pv 4) xU rfl) rfl) rfl) rfl) rfl))))) xU rfl))))))⟩
  let B1:Bk Y ((aj wL).drop 1):=⟨_,(xM (xf (wQ PassesOwn.never rfl (Ly rfl T.rJ rfl T.cz (xK (xL (xg xt (xc (xX rfl) (by rfl) T.bA PySem.boot_len (xK (xL (xY (xj rfl) (pv 0) xO (λ_ _=>rfl)) xU rfl))) xO) xU rfl))) (xV (i:=3) nd rfl rfl) (xM (xf (xb (i:=4) nd rfl rfl (ia (oJ (pv 2) (λ_=>rfl)) (xY (xW rfl) (pv 2) (cJ wd xO) (λ_ _=>rfl)) cV)) B0.bl))) (xk (xZ (mV rfl (pv 2))))))⟩
  refine ⟨_,(xM (xf (xb (i:=2) nd rfl rfl (wA cj)) B1.bl)),?_⟩;have line:=bI;have w4:=cx.w4;have RY:=cx.gd.len;have ud:=cx.ud;refine ⟨zY _,λlp Xg=>?_⟩;have s1:=xP (o:=HO.lst []) Xg;have k1:upd H lp (HO.lst []) lp=some (.lst []):=xN;generalize upd H lp (HO.lst [])=H1 at s1 k1 ⊢;have lC:=cx.bk.same s1;refine (zr rfl (cH lC.book rfl ⟨tm,zr rfl ⟨.inr (bC.of lC.meets),aG rfl rfl ⟨ps.length + 1,by rw [zA];rfl,by omega,?_⟩⟩⟩));refine (let W11:IV:=λi σ H5=>∃ A,(∃ v3 v4,σ=[some (.ref b),some (.ref l),some (.ref lp),v3,v4])/\aA H H5/\gR H H5 lp af.length (2 ^ ws.length) (ps.map (·.2)) (wq ws) A i;rj W11 ⟨[],⟨_,_,rfl⟩,s1,k1,(λ_ z=>nomatch z),(λ_ z=>nomatch z),rfl,(λ_ z=>absurd z (zv _))⟩ ?_ ?_)
  ·rintro i σ H5 hi ⟨A,⟨v3,v4,rfl⟩,s5,d5⟩;have ej:((ps.length + 1:Nat):Int) - 1 + (i:Nat) * -1=((ps.length - i:Nat):Int):=by omega
   rw [ej];have MN:=cx.same s5;obtain ⟨v,F,fo,eF,hv⟩:=d5.Yi (K:=K) (σ:=[some (.ref b),some (.ref l),some (.ref lp),some (.int ((ps.length - i:Nat):Int)),v4]) rfl;refine (zr rfl ⟨_,.inl ⟨_,aJ.of d5.top,rfl⟩,hv _ ?_⟩);have hF:∀ G,F=some G->ps.length - i < ps.length:=λG z=>by
    by_cases e:i=0
    ·rw [if_pos e] at eF;rw [eF] at z;cases z
    ·omega
   have MI:=MN.bk;refine (zr rfl ⟨.inl ⟨rfl,_,aJ.of d5.top⟩,zr rfl (cH MI.book rfl ⟨tr,zr rfl ⟨.inr (bC.of MI.af),zr rfl ⟨by rw [zA];omega,by rw [zA];omega,?_⟩⟩⟩)⟩);rw [show (((af.map V.int).length:Nat):Int).toNat=af.length by rw [zA];rfl];refine (let W12:IC:=λw0 τ acc H6=>∃ B:List nP,(∃ t0,τ=[t0,some (.ref b),some (.ref l),some (.int ((ps.length - i:Nat):Int)),some v])/\acc=(B.map λb=>V.ref b.1)/\B.length=w0/\aA H5 H6/\KN H H6 lp (2 ^ ws.length) (ps.map (·.2)) (wq ws) (ps.length - i) F B;gO (lo:=0) (m:=af.length) W12 ⟨[],⟨_,rfl⟩,rfl,rfl,aA.refl _,KN.nil⟩ (by omega) ?_ ?_ ?_)
   ·rintro w0 τ acc H6 ⟨B,_,rfl,e,_,_⟩;rw [zA,e];exact zB _
   ·rintro w0 τ acc H6 C hw ⟨B,⟨t0,rfl⟩,rfl,e,s6,rB⟩ hC;rw [Int.zero_add];refine (zr rfl (zr rfl (zr rfl (zr rfl (zr rfl (OM b l (ps.length - i) w0 v af tr tm ps ws F ⟨rfl,MN.same s6,hw,fo.same s6,hF,λlr r H7 s7 f7 k7 l7 d7=>?_⟩))))));refine hC _ _ _ ⟨B++[(lr,r)],⟨_,rfl⟩,by rw [zF];rfl,by rw [zO,e];rfl,s6.trans s7,(rB.same s7).snoc k7 l7 ((s5.trans s6).free f7) ?_ (by rw [e];exact d7)⟩;exact Ne.symm (xQ (s6 _ _ d5.top) f7)
   ·rintro τ acc H6 ⟨B,⟨t0,rfl⟩,rfl,e,s6,rB⟩ la Vt;have s7:=xP (o:=HO.lst (B.map λb=>V.ref b.1)) Vt;have k7:upd H6 la (HO.lst (B.map λb=>V.ref b.1)) la=some (.lst (B.map λb=>V.ref b.1)):=xN;generalize upd H6 la _=H7 at s7 k7 ⊢;have d7:=(d5.same s6).same s7;have ne:la≠lp:=Ne.symm (xQ (s6 _ _ d5.top) Vt);have lA:A.length=i:=d5.len;refine ⟨lp,aG rfl rfl ⟨d7.top,by rw [zA];omega,A++[(la,B)],⟨_,_,rfl⟩,aA.put Xg ((s5.trans s6).trans s7),?_⟩⟩;have bt:∀ c u,c≠lp->H7 c=some u->upd H7 lp (.lst (A.map (λa=>V.ref a.1)++[V.ref la])) c=some u:=λc u n k=>by rw [xR n];exact k
    have RU:=rB.same s7;refine d7.snoc (F:=F) bt xN (bt _ _ ne k7) ((s5.trans s6).free Vt) ne e ⟨λx hx=>⟨bt _ _ (RU.row x hx).2.2.2 (RU.row x hx).1,(RU.row x hx).2⟩,?_⟩ eF;rw [zA];exact RU.dp
  ·rintro σ H5 ⟨A,⟨v3,v4,rfl⟩,s5,d5⟩;have gd:=cx.gd;have lA:A.length=ps.length + 1:=d5.len;have nA:(ps.map (·.2)).length=ps.length:=zA _;rw [<-nA] at d5;refine (zr rfl ⟨lp,zr rfl ⟨aJ.of d5.top,λlq hq=>?_⟩⟩);have s6:=xP (o:=HO.lst (A.map λa=>V.ref a.1).reverse) hq;have k6:upd H5 lq (HO.lst (A.map λa=>V.ref a.1).reverse) lq=some (.lst (A.map λa=>V.ref a.1).reverse):=xN;generalize upd H5 lq _=H6 at s6 k6 ⊢;rw [<-List.map_reverse] at k6;rw [dB ws |>.symm] at d5;have pr:=d5.pr gd s6 k6;rw [nA,dB] at pr;exact q lq A.reverse H6 (s5.trans s6) (s5.free hq) (λa ha=>⟨(d5.str a (yF.mp ha)).2.2.1,λb hb=>(d5.row a (yF.mp ha) b hb).2.2.1⟩) pr (d5.done gd)
theorem DR:ay ["kept", "given", "some"] ["kept", "given", "some"] (aq Cu):=L2.bw
theorem FO (T:Tx K mg a ak ai ah)(B:aW mg base):aT P w K mg base cB 4 a.AB a.Az ["kept", "given", "some"] (vP a.tP bM):=by
 have FL:=Gd P w base T B;refine T.AZ.YH T.Ue DR (λvs H Q E h=>?_) (λA outer s H vs Q E hr h=>?_)
 ·obtain ⟨_,_,_,_,_,_,rfl,_⟩:=h;rfl
 ·have nd:=DR.nd;have hu:=hr.units;obtain ⟨lk,lg,s,xs,ys,sz,rfl,k1,k2,e1,e2,hs,Yz,mt,q⟩:=h;refine ⟨_,(xM (xk (xZ (ug (caps:=[0,1]) (pn := "pair") rfl rfl T.pX rfl T.Ud B rfl (hr.mono (by decide)) (show iG ["pair"] [0,1] ["kept", "given", "some"] (aq Cu) _ from ⟨rfl,rfl,rfl,by decide +kernel,by decide +kernel,by decide +kernel,by decide +kernel,by decide +kernel⟩) (λ_ _ _ _ _=>rfl) (λ_ _ _ _ _=>(xg xt (xY (xW rfl) (pv 1) (xY (xj rfl) (pv 0) xO (λ_ _=>rfl)) (λ_ _=>rfl)) (xY (xW rfl) (pv 2) (xY (xj rfl) (pv 0) xO (λ_ _=>rfl)) (λ_ _=>rfl)))) (xT FL (hr.mono (by decide)) rfl T.G9 T.Hf T.Hl .nil av (xK (xL (pv 2) xU rfl))) rfl)))),?_⟩;have line:=bI;refine (zr rfl ⟨s,rfl,by omega,λl0 rs H1 s1 kl kr es=>?_⟩);have UP:=mt.bP s1;have ge:∀ {z:Addr}{ns:List Int}{H':Hp},H z=some (.lst (ns.map V.int))->bV a.tP H1 H'->H' z=some (.lst (ns.map V.int)):=λk bt=>bt _ _ (mt.JH k) (s1 _ _ k);refine ⟨l0,rs.map (λr=>(r.1,[(r.2.1:Int),(r.2.2:Int)])),(λz=>xs.getD (z.getD 0 0).toNat 0 + ys.getD (z.getD 1 0).toNat 0),rfl,by rw [yC];exact kl,?_,UP,λx hx=>?_,λx hx H' bt=>?_,λx H2 hx best bt NS=>?_⟩
  ·rw [zA];have:(0,s)∈rs.map (·.2):=by rw [es];exact cR.mpr ⟨⟨zY _,Nat.zero_and _⟩,rfl⟩
   obtain ⟨r,hr,_⟩:=zS.mp this;exact List.length_pos_of_mem hr
  ·obtain ⟨r,hr,rfl⟩:=zS.mp hx;exact kr r hr
  ·obtain ⟨r,hr,rfl⟩:=zS.mp hx;have le:=split_le (s:=s) (r:=r.2) (by rw [<-es];exact yO hr);have k:=bt _ _ (UP.qO (kr r hr)) (kr r hr);refine (zr rfl (zr rfl (cH k rfl (bR (ge k1 bt) (fM (by omega)) (zr rfl (zr rfl (cH k rfl (bR (ge k2 bt) (fM (by omega)) (aG rfl rfl ⟨rfl,aA.refl _⟩)))))))))
  ·obtain ⟨r,hr,rfl⟩:=zS.mp hx;have mr:r.2∈fz s:=by rw [<-es];exact yO hr
   obtain ⟨r0,p,q0⟩:=r;obtain ⟨⟨_,b2⟩,rfl⟩:=cR.mp mr;refine q r0 p H2 (λb u n e=>bt b u n (s1 b u e)) NS (bt _ _ (UP.qO (kr _ hr)) (kr _ hr)) (dH.mp b2) λp' sp=>?_;have:(p',s - p')∈rs.map (·.2):=by rw [es];exact cR.mpr ⟨⟨sp.le,dH.mpr sp⟩,rfl⟩
   obtain ⟨r',uG,e'⟩:=zS.mp this;have:=best _ (yO uG);rw [e'] at this;exact this
theorem Fk:ay ["book", "sender", "since", "wishes", "prices", "givings", "parts", "stretch", "walker", "some", "following", "other", "part", "rest"] ["book", "sender", "since", "wishes", "prices"] (aq wC):=L2.bw
theorem HH (T:Tx K mg a ak ai ah)(B:aW mg base):aT P w K mg base cB 5 a.BT a.Cw ["book", "sender", "since", "wishes", "prices"] (vI a.tP bM):=by
 have ER:=Fq P w base T B;have Ec:=EY P w base T B;have FN:=Ge P w base T B;have Dj:=DZ P w base T B;have GX:=FO P w base T B;refine T.Cg.ok Fk (λvs H Q E h=>?_) (λbK A outer s H vs Q E hr h=>?_)
 ·obtain ⟨_,_,_,_,_,_,_,_,_,_,_,rfl,_⟩:=h;rfl
 ·have nd:=Fk.nd;have hu:=hr.units;obtain ⟨b,k,a0,l,lp,af,tr,tm,ps,ws,P,rfl,cx,hk,dp,fin,own,mt,q⟩:=h;refine bU ?_;intro Y
  let B0:Bk Y ((nb (aj wC) 2).drop 9):=⟨_,(xM (xk (wl (dN zV zc zd wE (pv 6) (xK (xL (xz (xK (xL (xg xt (pv 7) xO) (xL (pv 11) (xL (pv 13) xU rfl) rfl) rfl))) xU rfl))))))⟩
  let B1:Bk Y ((nb (aj wC) 2).drop 8):=⟨_,(xM (xf (wl (dN zV zc zd wE (pv 6) (xK (xL (xz (xK (xL (xg xt (pv 7) xO) (xL (pv 8) (xL (pv 12) xU rfl) rfl) rfl))) xU rfl)))) B0.bl))⟩
  let B2:Bk Y ((nb (aj wC) 2).drop 7):=⟨_,(xM (xf (wl (dN zV zc zd wE (pv 5) (xK (xL (xz (xK (xL (pv 7) (xL (pv 8) xU rfl) rfl))) xU rfl)))) B1.bl))⟩
  let B3:Bk Y ((nb (aj wC) 2).drop 6):=⟨_,(xM (xf (wc (xT GX (hr.mono (by decide)) rfl T.Gv T.GB T.GH .nil av (xK (xL (xY (xW rfl) (pv 10) (pv 8) (λ_ _=>rfl)) (xL (xY (xW rfl) (pv 10) (pv 11) (λ_ _=>rfl)) (xL (pv 9) xU rfl) rfl) rfl))) (xv (n:=2) rfl rfl (xS (xV (i:=12) nd rfl rfl) (xS (xV (i:=13) nd rfl rfl) xu)))) B2.bl))⟩
  let B4:Bk Y ((nb (aj wC) 2).drop 5):=⟨_,(xM (xf (xb (i:=11) nd rfl rfl (xT Ec (hr.mono (by decide)) rfl T.Fv T.Fy T.FB .nil av (xK (xL (pv 0) (xL (pv 7) (xL (pv 8) xU rfl) rfl) rfl)))) B3.bl))⟩
  let B5:Bk Y (nb (nb (aj wC) 2) 4):=⟨_,(xM (xf (wl (dN zV zc zd wE (pv 6) (xK (xL (xz (xK (xL (xg xt (pv 7) xO) (xL (pv 8) (xL (pv 9) xU rfl) rfl) rfl))) xU rfl)))) (xk je)))⟩
  let B6:Bk Y ((nb (aj wC) 2).drop 4):=⟨_,(xM (xf (xr (xi bX (xY (xW rfl) (xY (xW rfl) (xY (xW rfl) (pv 4) (pv 7) (λ_ _=>rfl)) (pv 8) (λ_ _=>rfl)) (pv 9) (λ_ _=>rfl)) (xY (xW rfl) (xY (xW rfl) (pv 10) (pv 8) (λ_ _=>rfl)) (pv 9) (λ_ _=>rfl)) (aB _)) B5.ps xh) B4.bl))⟩
  let B7:Bk Y ((nb (aj wC) 2).drop 2):=⟨_,(xM (xf (xr (xi bX (pv 9) xO (aB _)) (xM (xk je)) xh) (xf (xb (i:=10) nd rfl rfl (xY (xW rfl) (pv 4) (xg xt (pv 7) xO) (λ_ _=>rfl))) B6.bl)))⟩
  let B8:Bk Y ((nb (aj wC) 2).drop 1):=⟨_,(xM (xf (xb (i:=9) nd rfl rfl (xT Dj (hr.mono (by decide)) rfl T.Et T.Ev T.Ex .nil av (xK (xL (pv 0) (xL (pv 3) (xL (pv 7) (xL (pv 8) (xL (pv 9) xU rfl) rfl) rfl) rfl) rfl)))) B7.bl))⟩
  let B9:Bk Y (nb (aj wC) 2):=⟨_,(xM (xf (wc (NH zV PySem.F.slot_list_pop PySem.F.type_list_pop NR (pv 6)) (xv (n:=3) rfl rfl (xS (xV (i:=7) nd rfl rfl) (xS (xV (i:=8) nd rfl rfl) (xS (xV (i:=9) nd rfl rfl) xu))))) B8.bl))⟩
  let RJ:Bk Y ((aj wC).drop 1):=⟨_,(xM (xf (xb (i:=6) nd rfl rfl (wA (xK (xL (xz (xK (xL (xT ER (hr.mono (by decide)) rfl T.Gg T.Gi T.Gk .nil av (xK (xL (pv 0) (xL (pv 2) xU rfl) rfl))) (xL (pv 1) (xL (xT FN (hr.mono (by decide)) rfl T.Hb T.Hh T.Hn .nil av (xK (xL (pv 3) xU rfl))) xU rfl) rfl) rfl))) xU rfl)))) (xf (oK PassesOwn.never (oJ (pv 6) (λ_=>rfl)) B9.ps) (xk (xZ (xc (kG) (by rfl) T.pW PyProof.Rows.boot_sorted (xK (xL (pv 5) xU rfl))))))))⟩
  refine ⟨_,(xM (xf (xb (i:=5) nd rfl rfl (wA cj)) RJ.bl)),?_⟩;have line:=bI;have w4:=cx.w4;have gd:=cx.gd;have RY:ps.length<=60:=gd.len;have UC:=MA w4;have p0:=yg ws.length;have eK:(wq ws).length=ws.length:=dB ws;have nm:(ps.map (·.2)).length=ps.length:=zA _;have LW:∀ x∈wq ws,x.1 < af.length:=λx hx=>by
   obtain ⟨y,hy,rfl⟩:=zS.mp hx;exact (cx.wa.2 y hy).2
  have fr:=dp.OL gd LW;refine ⟨zY _,λlg Xi=>?_⟩;have s1:=xP (o:=HO.lst []) Xi;have k1:upd H lg (HO.lst []) lg=some (.lst []):=xN;generalize upd H lg (HO.lst [])=H1 at s1 k1 ⊢;have XX:=cx.same s1;refine (zr rfl (zr rfl (VW b a0 af tr tm ps ⟨rfl,XX.bk,by omega,λH2 s2=>?_⟩)));have cx2:=XX.same s2;refine (zr rfl (zr rfl ⟨l,ws,zr rfl ⟨cx2.wa,by omega,by show 3<=sizeLine;omega,λt ht=>?_⟩⟩));have s3:=xP (o:=HO.tup [V.int (cnt (ps.map (·.2)) a0:Nat),V.int (k:Int),V.int (((2 ^ ws.length:Nat):Int) - 1)]) ht;have k3:upd H2 t (HO.tup [V.int (cnt (ps.map (·.2)) a0:Nat),V.int (k:Int),V.int (((2 ^ ws.length:Nat):Int) - 1)]) t=some (.tup [V.int (cnt (ps.map (·.2)) a0:Nat),V.int (k:Int),V.int ((2 ^ (wq ws).length - 1:Nat):Int)]):=by
   rw [xN,eK,show ((2 ^ ws.length - 1:Nat):Int)=((2 ^ ws.length:Nat):Int) - 1 by omega]
  generalize upd H2 t _=H3 at s3 k3 ⊢;refine ⟨by show 1<=sizeLine;omega,λlq Vp=>?_⟩;have s4:=xP (o:=HO.lst [V.ref t]) Vp;have k4:upd H3 lq (HO.lst [V.ref t]) lq=some (.lst [V.ref t]):=xN;generalize upd H3 lq (HO.lst [V.ref t])=H4 at s4 k4 ⊢;have Lp:=(s2.trans s3).trans s4;have Wz:=s1.trans Lp;have L4:fO a.tP bM H H4 lg lq [] [(t,(cnt (ps.map (·.2)) a0,k,2 ^ (wq ws).length - 1))]:=
   ⟨aA.kH Wz,mt.bP Wz,Xi,((s1.trans s2).trans s3).free Vp,xQ ((s2.trans s3) _ _ k1) Vp,Lp _ _ k1,k4,(λ_ z=>nomatch z),λx hx=>by cases zN.mp hx;exact s4 _ _ k3⟩
  refine V4 ?_;refine K5 (m0:=fF (ps.map (·.2)).length ([(t,(cnt (ps.map (·.2)) a0,k,2 ^ (wq ws).length - 1))].map (·.2))) (λm σ H5=>∃ G:List (Addr×Nat×Nat),∃ Qs:List (Addr×fh),(∃ v7 v8 v9 v10 v11 Wn Wm,σ=[some (.ref b),some (.int (k:Int)),some (.int a0),some (.ref l),some (.ref lp),some (.ref lg),some (.ref lq),v7,v8,v9,v10,v11,Wn,Wm])/\m=fF (ps.map (·.2)).length (Qs.map (·.2))/\fO a.tP bM H H5 lg lq G Qs/\kN Qs/\bF (ps.map (·.2)) (cy (aO P)) af.length (wq ws) k a0 (G.map (·.2)) (Qs.map (·.2))) ⟨[],_,⟨_,_,_,_,_,_,_,rfl⟩,rfl,L4,(λi x h=>by cases i with | zero=>exact zY _ | succ i=>cases h),bF.start hk⟩ ?_ ?_
  ·rintro m σ H5 ⟨G,Qs,⟨v7,v8,v9,v10,v11,Wn,Wm,rfl⟩,rfl,L5,Lf,ex⟩;rcases List.eq_nil_or_concat Qs with rfl | ⟨Q0,⟨q0,j,w0,s⟩,eQ⟩
   ·refine (zr rfl ⟨false,.inl ⟨_,aJ.of L5.kq,rfl⟩,aD rfl ?_⟩);have eG:=ex.c;have sG:=ex.s;rw [yU,yU,List.sum_nil,Int.add_zero] at eG;obtain ⟨T,h,Ub,sv,lT,pT,tT⟩:=M9 fr gd hk (G:=G.map (·.2)) eG (λk x hx=>by
     rcases sG k x hx with ⟨y,hy,_⟩ | h
     ·cases hy
     ·exact h) own
    rw [eK] at eG lT;rw [zA] at eG;refine (zr rfl ⟨lg,G.map (λx=>(x.1,[(x.2.1:Int),(x.2.2:Int)])),rfl,by rw [yC];exact aJ.of L5.kg,by rw [zA];omega,λy hy=>?_,λls qs Xf pm Yr=>?_⟩)
    ·obtain ⟨x,hx,rfl⟩:=zS.mp hy;exact ⟨L5.pg x hx,List.cons_ne_nil _ _⟩
    ·obtain ⟨Tl,pl,rfl,eT⟩:=Nd pm Yr pT tT;rw [yC];have s6:=xP (o:=HO.lst (Tl.map λx=>V.ref x.1)) Xf;refine q ls Tl h _ (L5.bt.fB s6) (L5.mt.bP s6) (OH L5.mt L5.bt Xf) ⟨xN,λx hx=>s6 _ _ (L5.pg x (pl.mem_iff.mp hx)),by rw [eT];exact Ub,sv⟩ ?_;rw [<-eT,zA] at lT;exact lT
   ·rw [List.concat_eq_append] at eQ;subst eQ;rw [zF] at ex;obtain ⟨hj,hw,hs,has⟩:=ex.last;rw [eK] at hs;rw [nm] at hj;refine (zr rfl ⟨true,.inl ⟨_,aJ.of L5.kq,by rw [zF];cases Q0 <;> rfl⟩,aM rfl ?_⟩);refine (zr rfl ⟨.inl ⟨rfl,_,aJ.of L5.kq⟩,lq,_,V.ref q0,rfl,rfl,L5.kq,by rw [zF,zO,zW (by simp)];simp,?_⟩);rw [show (List.map (λx=>V.ref x.1) (Q0++[(q0,j,w0,s)])).dropLast=Q0.map λx=>V.ref x.1 by rw [zF];exact List.dropLast_concat];have kx:=L5.pq _ (zE _ (.head _));have L6:=L5.P8 (Q':=Q0) λx hx=>L5.pq x (zT _ hx);have k6:upd H5 lq (.lst (Q0.map λx=>V.ref x.1)) q0=some (.tup [.int (j:Int),.int (w0:Int),.int (s:Int)]):=by rw [xR (bY kx L5.kq (by intro z;cases z))];exact kx
    generalize upd H5 lq (.lst (Q0.map λx=>V.ref x.1))=H6 at L6 k6 ⊢;have K4:=cx.iA mt L6.bt;refine (Yn k6 ?_);refine (zr rfl (zr rfl (zr rfl (zr rfl (zr rfl (ON b l j w0 s af tr tm ps ws ⟨rfl,K4.cb,hs,λH7 s7=>?_⟩))))));have L7:=L6.same s7;have sP:=K4.same s7;refine (zr rfl ⟨rfl,zr rfl ?_⟩);have m1:fF (ps.map (·.2)).length ((Q0++[(q0,j,w0,s)]).map (·.2))=fF (ps.map (·.2)).length (Q0.map (·.2)) + 3 ^ (ps.length - j):=by rw [zF,<- nm];exact ig _ _ _
    have pw0:=Nat.pow_pos (n:=ps.length - j) (show 0 < 3 by decide);by_cases e0:az (ps.map (·.2)) (wq ws) j w0 s=0
    ·refine aM (decide_eq_true (by rw [e0];rfl)) ⟨_,?_,G,Q0,⟨_,_,_,_,_,_,_,rfl⟩,rfl,L7,Lf.pop.1,ex.drop dp fr e0⟩;rw [m1];omega
    refine aD (decide_eq_false (λz=>e0 (Int.ofNat.inj (V.int.inj z)))) ?_;have lt:=ex.LG dp gd (by rw [nm,eK];exact fin) e0;rw [nm] at lt;have os:=(wK (ms:=ps.map (·.2)) (j:=j) (w:=w0) (s:=s) (ws:=wq ws) (by rw [eK];exact hs)).lt hs;obtain ⟨A1,B1,XE,XC,UR,Y3,Zd,T9⟩:=sP.pr.get (j:=j + 1) (k:=w0) lt hw;obtain ⟨A0,B0,Z8,Z7,WS,Y4,lB0,Yj⟩:=sP.pr.get (j:=j) (k:=w0) hj hw;refine (zr rfl (zr rfl (aG rfl rfl (bR sP.pr.top (xo (j:=j + 1) (by rw [zG,XE];rfl)) ?_))));have Uq:=sP.pr.str A1 UR;have Ww:=sP.pr.row A1 UR B1 Y3;have gB1:dS (B1.2.map V.int) ((az (ps.map (·.2)) (wq ws) j w0 s:Nat):Int)=some (.int (cy (aO P) (j + 1) w0 (az (ps.map (·.2)) (wq ws) j w0 s))):=by rw [<-T9];exact fM (by omega)
    have gB0:dS (B0.2.map V.int) ((az (ps.map (·.2)) (wq ws) j w0 s:Nat):Int)=some (.int (cy (aO P) j w0 (az (ps.map (·.2)) (wq ws) j w0 s))):=by rw [<-Yj];exact fM (by omega)
    refine (zr rfl (zr rfl (bR sP.pr.top (xo (by rw [zG,Z8];rfl)) (zr rfl (bR (sP.pr.str A0 WS) (xo (by rw [zG,Z7];rfl)) (zr rfl (bR (sP.pr.row A0 WS B0 Y4) gB0 ?_)))))));refine (zr rfl (zr rfl (bR Uq (xo (by rw [zG,XC];rfl)) (zr rfl (bR Ww gB1 ⟨rfl,zr rfl ?_⟩)))));have pw1:=UA ps.length j lt;have sq:Q0.length<=j + 1:=Lf.pop.2;by_cases e1:cy (aO P) j w0 (az (ps.map (·.2)) (wq ws) j w0 s)=cy (aO P) (j + 1) w0 (az (ps.map (·.2)) (wq ws) j w0 s)
    ·refine aM (decide_eq_true (by rw [e1])) ?_;refine (zr rfl ⟨.inl ⟨rfl,_,aJ.of L7.kq⟩,zr rfl (aG rfl rfl (zr rfl (zr rfl ⟨by show 3<=sizeLine;omega,λt1 ng=>?_⟩)))⟩);have s8:=xP (o:=HO.tup [V.int ((j:Int) + 1),V.int (w0:Int),V.int ((az (ps.map (·.2)) (wq ws) j w0 s:Nat):Int)]) ng;have k8:upd H7 t1 (HO.tup [V.int ((j:Int) + 1),V.int (w0:Int),V.int ((az (ps.map (·.2)) (wq ws) j w0 s:Nat):Int)]) t1=some (.tup [V.int ((j + 1:Nat):Int),V.int (w0:Int),V.int ((az (ps.map (·.2)) (wq ws) j w0 s:Nat):Int)]):=xN;generalize upd H7 t1 _=H8 at s8 k8 ⊢;have L8:=L7.same s8;refine ⟨lq,aG rfl rfl ⟨L8.kq,by rw [zA];omega,_,?_,G,Q0++[(t1,(j + 1,w0,az (ps.map (·.2)) (wq ws) j w0 s))],⟨_,_,_,_,_,_,_,rfl⟩,rfl,L8.OZ k8,Lf.pop.1.push (by show Q0.length<=j + 1 + 1;omega),?_⟩⟩
     ·rw [m1,zF,show fF (ps.map (·.2)).length (Q0.map (·.2)++[(t1,(j + 1,w0,az (ps.map (·.2)) (wq ws) j w0 s))].map (·.2))=fF (ps.map (·.2)).length (Q0.map (·.2)) + 3 ^ (ps.length - (j + 1)) by rw [<-nm];exact ig _ _ _];omega
     ·rw [zF];exact ex.go dp (by rw [nm];exact lt) e1
    ·refine aD (decide_eq_false (λz=>e1 (V.int.inj z))) ?_;obtain ⟨o,tt,lk,gv⟩:=OC dp (by rw [nm];exact lt) hw (by rw [eK];exact hs) e0 e1;obtain ⟨mm,Oi,XW,Sv⟩:=id lk;obtain ⟨ho,oW,_⟩:=lk.inside gd;have fx:=gd.each mm (zD Oi);have eo:(if (w0:Int)=mm.lo then mm.hi else mm.lo)=(o:Int):=by
      rcases Sv with ⟨c1,c2⟩ | ⟨c1,c2⟩ <;> (split <;> omega)
     have VU:=ex.kT dp gd (by rw [nm,eK];exact fin);rw [zA,nm] at VU;refine (zr rfl (zr rfl (zr rfl (XU b j w0 af tr tm ps mm ⟨rfl,sP.bk,Oi,?_⟩))));rw [eo];obtain ⟨A2,B2,XD,Z6,mA2,Y0,Zc,Wl⟩:=sP.pr.get (j:=j + 1) (k:=o) lt oW;obtain rfl:A1=A2:=by rw [XE] at XD;exact Option.some.inj XD
     refine (zr rfl (zr rfl (bR Uq (xo (by rw [zG,XC];rfl)) (zr rfl (zr rfl (bR Uq (xo (by rw [zG,Z6];rfl)) (zr rfl ⟨B1.1,B2.1,az (ps.map (·.2)) (wq ws) j w0 s,B1.2,B2.2,2 ^ ws.length,rfl,Ww,sP.pr.row A1 UR B2 Y0,Zd,Zc,os,UC,L7.mt,λt2 p H8 b8 RZ k8 sp mn=>?_⟩)))))));have L8:=L7.but b8 RZ;refine (rS k8 ?_);refine (zr rfl ⟨.inl ⟨rfl,_,aJ.of L8.kg⟩,zr rfl (zr rfl ⟨by show 2<=sizeLine;omega,λt3 Vd=>?_⟩)⟩);have s9:=xP (o:=HO.tup [V.int (j:Int),V.int (w0:Int)]) Vd;have k9:upd H8 t3 (HO.tup [V.int (j:Int),V.int (w0:Int)]) t3=some (.tup [V.int (j:Int),V.int (w0:Int)]):=xN;generalize upd H8 t3 _=H9 at s9 k9 ⊢;have L9:=L8.same s9;refine ⟨lg,aG rfl rfl ⟨L9.kg,by rw [zA];omega,?_⟩⟩;have Wd:=L9.V5 (x:=(j,w0)) k9;generalize upd H9 lg _=ve at Wd ⊢;refine (zr rfl ⟨.inl ⟨rfl,_,aJ.of Wd.kq⟩,zr rfl (aG rfl rfl (zr rfl (zr rfl ⟨by show 3<=sizeLine;omega,λt4 Vc=>?_⟩)))⟩);have Ny:=xP (o:=HO.tup [V.int ((j:Int) + 1),V.int (w0:Int),V.int (p:Int)]) Vc;have Pn:upd ve t4 (HO.tup [V.int ((j:Int) + 1),V.int (w0:Int),V.int (p:Int)]) t4=some (.tup [V.int ((j + 1:Nat):Int),V.int (w0:Int),V.int (p:Int)]):=xN;generalize upd ve t4 _=RH at Ny Pn ⊢;have Yc:=Wd.same Ny;refine ⟨lq,aG rfl rfl ⟨Yc.kq,by rw [zA];omega,?_⟩⟩;have Wc:=Yc.OZ (x:=(j + 1,w0,p)) Pn;generalize upd RH lq _=tD at Wc ⊢;refine (zr rfl ⟨.inl ⟨rfl,_,aJ.of Wc.kq⟩,zr rfl (aG rfl rfl (zr rfl (zr rfl ⟨by show 3<=sizeLine;omega,λt5 Zy=>?_⟩)))⟩);have Wy:=xP (o:=HO.tup [V.int ((j:Int) + 1),V.int (o:Int),V.int ((az (ps.map (·.2)) (wq ws) j w0 s - p:Nat):Int)]) Zy;have WZ:upd tD t5 (HO.tup [V.int ((j:Int) + 1),V.int (o:Int),V.int ((az (ps.map (·.2)) (wq ws) j w0 s - p:Nat):Int)]) t5=some (.tup [V.int ((j + 1:Nat):Int),V.int (o:Int),V.int ((az (ps.map (·.2)) (wq ws) j w0 s - p:Nat):Int)]):=xN;generalize upd tD t5 _=PF at Wy WZ ⊢;have Yb:=Wc.same Wy;refine ⟨lq,aG rfl rfl ⟨Yb.kq,by rw [zA,zO];show Q0.length + 1 < _;omega,_,?_,G++[(t3,(j,w0))],Q0++[(t4,(j + 1,w0,p))]++[(t5,(j + 1,o,az (ps.map (·.2)) (wq ws) j w0 s - p))],⟨_,_,_,_,_,_,_,rfl⟩,rfl,Yb.OZ WZ,(Lf.pop.1.push (by show Q0.length<=j + 1 + 1;omega)).push (by rw [zO];show Q0.length + 1<=j + 1 + 1;omega),?_⟩⟩
     ·rw [m1,zF,zF,show fF (ps.map (·.2)).length (Q0.map (·.2)++[(t4,(j + 1,w0,p))].map (·.2)++[(t5,(j + 1,o,az (ps.map (·.2)) (wq ws) j w0 s - p))].map (·.2))=fF (ps.map (·.2)).length (Q0.map (·.2)) + 3 ^ (ps.length - (j + 1)) + 3 ^ (ps.length - (j + 1)) by rw [<-nm];exact (ig _ _ _).trans (congrArg (· + _) (ig _ _ _))];have:0 < 3 ^ (ps.length - (j + 1)):=Nat.pow_pos (by decide);omega
     ·rw [zF,zF,zF];refine ex.give dp gd lk sp (gv p sp λp' Uk=>?_);rw [<-T9,<- T9,<- Wl,<- Wl];exact mn p' Uk
  ·rintro σ H5 Q1 Q2 h ⟨v,e,k',t',c⟩;exact ⟨v,e,k',t',h _ _ c⟩
theorem F8:ay ["book", "sender", "since", "wishes", "number", "walker", "last", "prices"] ["book", "sender", "since", "wishes"] (aq Ck):=L2.bw
theorem Ix (T:Tx K mg a ak ai ah)(B:aW mg base):aT P w K mg base cB 6 a.Cn a.CW ["book", "sender", "since", "wishes"] (qp a.tP bM):=by
 have EQ:=Ep P w base T B;have Ir:=G7 P w base T B;have FM:=Fc P w base T B;have IK:=HH P w base T B;refine T.CI.ok F8 (λvs H Q E h=>?_) (λbK A outer s H vs Q E hr h=>?_)
 ·obtain ⟨_,_,_,_,_,_,_,_,_,rfl,_⟩:=h;rfl
 ·have nd:=F8.nd;have hu:=hr.units;obtain ⟨b,k,a0,l,af,tr,tm,ps,ws,rfl,cx,r8,Jw,w1,hk,O0,PD,lst,mt,q⟩:=h;refine bU ?_;intro Y
  let B0:Bk Y ((aj Ck).drop 3):=⟨_,(xM (xk (xZ (xz (xK (xL mU (xL (xT IK (hr.mono (by decide)) rfl T.Iz T.IB T.IE .nil av (xK (xL (pv 0) (xL (pv 1) (xL (pv 2) (xL (pv 3) (xL (pv 7) xU rfl) rfl) rfl) rfl) rfl))) (xL (pv 7) xU rfl) rfl) rfl))))))⟩
  let B1:Bk Y ((aj Ck).drop 2):=⟨_,(xM (xf (xb (i:=7) nd rfl rfl (xT FM (hr.mono (by decide)) rfl T.Fw T.Fz T.FC .nil av (xK (xL (pv 0) (xL (pv 3) xU rfl) rfl)))) B0.bl))⟩
  let B2:Bk Y (nb (nb (aj Ck) 1) 0):=⟨_,(xM (xk (xZ (xz (xK (xL mU (xL (pv 4) (xL (xT EQ (hr.mono (by decide)) rfl T.EG T.EH T.EI .nil av (xK (xL (pv 0) (xL (pv 1) (xL (pv 2) xU rfl) rfl) rfl))) xU rfl) rfl) rfl))))))⟩
  let B3:Bk Y (nb (aj Ck) 1):=⟨_,(xM (xk (xr (bZ (cE (xT Ir (hr.mono (by decide)) rfl T.HP T.HW T.Id .nil av (xK (xL (pv 0) (xL (xz (xK (xL (pv 1) (xL (pv 2) (xL (pv 5) (xL (pv 6) xU rfl) rfl) rfl) rfl))) xU rfl) rfl))))) B2.ps xh)))⟩
  let B4:Bk Y ((aj Ck).drop 1):=⟨_,(xM (xf (wQ PassesOwn.never rfl (jW rfl rfl T.dw (xK (xL (pv 3) xU rfl))) (xv (n:=2) rfl rfl (xS (xV (i:=4) nd rfl rfl) (xS (xv (n:=2) rfl rfl (xS (xV (i:=5) nd rfl rfl) (xS (xV (i:=6) nd rfl rfl) xu))) xu))) B3.ps) B1.bl))⟩
  refine ⟨_,(xM (xf (xr (@PW.pt _ _ _ (cU (xi gf (xc (xX rfl) (by rfl) T.bA PySem.boot_len (xK (xL (xY (xj rfl) (pv 0) xO (λ_ _=>rfl)) xU rfl))) (mY (v:=V.int 8) rfl T.fc ⟨_,rfl⟩) (aB _)) (cC (xi gf (xc (xX rfl) (by rfl) T.bA PySem.boot_len (xK (xL (xY (xj rfl) (pv 0) xO (λ_ _=>rfl)) xU rfl))) (mY (v:=V.int 24) rfl T.eV ⟨_,rfl⟩) (aB _))))) (xM (xk vX)) xh) B4.bl)),?_⟩;have line:=bI;have w4:=cx.w4;have gd:=cx.gd;have eK:(wq ws).length=ws.length:=dB ws;have hb:=cx.bk;refine (zr rfl (cH hb.book rfl ⟨tr,zr rfl ⟨.inr (bC.of hb.af),aG rfl rfl (zr rfl ?_)⟩⟩));refine aD (decide_eq_false (by rw [zA];omega)) (zr rfl (cH hb.book rfl ⟨tm,zr rfl ⟨.inr (bC.of hb.meets),aG rfl rfl (zr rfl ?_)⟩⟩));refine aD (decide_eq_false (by rw [zA];omega)) ?_;refine (zr rfl ⟨l,rfl,⟨_,aJ.of cx.wa.1⟩,?_⟩);refine (let W13:IV:=λi σ H5=>(∃ v4 v5 v6 v7,σ=[some (.ref b),some (.int (k:Int)),some (.int a0),some (.ref l),v4,v5,v6,v7])/\aA H H5/\∀ j,j < i->∀ x,(wq ws)[j]?=some x->bJ (fwd (ps.map (·.2)) (aC k a0) x.1) x.2=true;iZ (K:=K) (a:=l) (xs:=ws.map λa=>V.ref a.1) W13 ⟨⟨_,_,_,_,rfl⟩,aA.refl _,(λj z=>absurd z (zv _))⟩ ?_ ?_ ?_)
  ·rintro i σ H5 _ ⟨_,s5,_⟩;exact aJ.of (s5 _ _ cx.wa.1)
  ·rintro i v q0 σ H5 hv hq ⟨⟨v4,v5,v6,v7,rfl⟩,s5,old⟩;obtain ⟨x,hx,rfl⟩:=wP hv;have Po:(wq ws)[i]?=some x.2:=by unfold wq;rw [zG,hx];rfl
   have s6:=s5.trans (xP (o:=HO.tup [V.int (i:Int),V.ref x.1]) hq);have kq:upd H5 q0 (HO.tup [V.int (i:Int),V.ref x.1]) q0=some (.tup [V.int (i:Int),V.ref x.1]):=xN;generalize upd H5 q0 (HO.tup [V.int (i:Int),V.ref x.1])=H6 at s6 kq ⊢;have K4:=cx.same s6;obtain ⟨kx,lx⟩:=K4.wa.2 x (zD hx);obtain ⟨z0,z9⟩:=lst x (zD hx);refine ⟨q0,zr rfl ⟨bC.of kq,rfl,mO rfl (mO rfl (rS kx ⟨rfl,?_⟩))⟩⟩;refine (zr rfl (zr rfl (zr rfl (zr rfl (zr rfl ⟨by show 4<=sizeLine;omega,λlt cY=>?_⟩)))));have s7:=s6.trans (xP (o:=HO.tup [V.int (k:Int),V.int a0,V.int (x.2.1:Int),V.int x.2.2]) cY);have k7:upd H6 lt (HO.tup [V.int (k:Int),V.int a0,V.int (x.2.1:Int),V.int x.2.2]) lt=some (.tup [V.int (k:Int),V.int a0,V.int (x.2.1:Int),V.int x.2.2]):=xN;generalize upd H6 lt (HO.tup [V.int (k:Int),V.int a0,V.int (x.2.1:Int),V.int x.2.2])=H7 at s7 k7 ⊢;have sP:=cx.same s7;have snoc:bJ (fwd (ps.map (·.2)) (aC k a0) x.2.1) x.2.2=true->∀ j,j < i + 1->∀ x,(wq ws)[j]?=some x->bJ (fwd (ps.map (·.2)) (aC k a0) x.1) x.2=true:=λup j hj y hy=>by
    by_cases e:j=i
    ·subst e;rw [Po] at hy;cases hy;exact up
    ·exact old j (by omega) y hy
   refine (ON b lt k x.2.1 a0 x.2.2 af tr tm ps ⟨rfl,sP.bk,by omega,gd,⟨k7,hk,lx,O0,PD,z0,z9⟩,λno H8 s8=>?_,λe l0 ns H8 ee ez hl s8 kl _ _=>?_⟩)
   ·have cx8:=sP.same s8;refine (zr rfl (aM rfl (zr rfl (zr rfl (zr rfl (zr rfl (vc b k a0 af tr tm ps ⟨rfl,hk,cx8.bk,by omega,gd,λl1 H9 _ s9 k9=>⟨by show 3<=sizeLine;omega,λt ht=>?_⟩⟩)))))));have jP:=xP (o:=HO.tup [V.str (Str.ofString "never"),V.int (i:Int),V.ref l1]) ht;have s:=(s7.trans s8).trans (s9.trans jP);exact q t _ (aA.kH s) (mt.bP s) (.inl ⟨i,l1,xN,⟨⟨x.2,Po,no⟩,old⟩,jP _ _ k9⟩)
   ·exact (zr rfl (aD rfl ⟨⟨_,_,_,_,rfl⟩,s7.trans s8,snoc (aK.mpr ⟨e,ee,ez⟩)⟩))
  ·rintro σ H5 ⟨⟨v4,v5,v6,v7,rfl⟩,s5,all⟩;have MN:=cx.same s5;have sv:aI (fwd (ps.map (·.2)) (aC k a0)) (wq ws):=λj x hx=>all j (by rw [zA,<- eK];exact (zC.mp hx).1) x hx;have LW:∀ x∈wq ws,x.1 < af.length:=λx hx=>by
    obtain ⟨y,hy,rfl⟩:=zS.mp hx;exact (cx.wa.2 y hy).2
   have nm:(ps.map (·.2)).length=ps.length:=zA _;refine (zr rfl (zr rfl (vc b l af tr tm ps ws ⟨rfl,MN,λlp P H6 s6 _ _ pr dp=>?_⟩)));have K4:=MN.same s6;have up:=K8 (dp.OL gd LW) gd hk sv;rw [nm,eK] at up;have Ph:=s5.trans s6;have Pj:=mt.bP Ph;refine (zr rfl (zr rfl (zr rfl (zr rfl (zr rfl (OM b k a0 l lp af tr tm ps ws P ⟨rfl,⟨K4.bk,gd,cx.r1,cx.ud,K4.wa,w1,w4,pr⟩,hk,dp,up,λx hx e=>?_,Pj,λlt Tl h H7 b7 YV _ tt len=>?_⟩))))))
   ·obtain ⟨j,hj⟩:=yS.mp hx;obtain ⟨y,hy,le⟩:=aK.mp (sv j x hj);rw [e,kh] at hy;cases hy;exact le
   ·refine (zr rfl ⟨by show 3<=sizeLine;omega,λt ht=>?_⟩);have s8:=xP (o:=HO.tup [V.str (Str.ofString "tree"),V.ref lt,V.ref lp]) ht;have YD:=pr.iA Pj b7;exact q t _ (((aA.kH Ph).trans b7).fB s8) (YV.bP s8) (.inr ⟨lt,lp,Tl,h,P,xN,sv,⟨s8 _ _ tt.top,λx hx=>s8 _ _ (tt.row x hx),tt.tr,tt.sv⟩,by rw [nm];exact YD.same s8,dp,len⟩)
theorem DT:ay ["_law_book_here_here", "_law_sender_here", "_law_since_here", "_law_found", "_law_one_here", "_law_other_here", "_law_when", "_law_passed", "_law_giver", "_law_taker"] ["_law_book_here_here", "_law_sender_here", "_law_since_here"] (aq wY):=L2.bw
theorem FP (T:Tx K mg a ak ai ah)(B:aW mg base):aT P w K mg base cB 1 a.AD a.Bv ["_law_book_here_here", "_law_sender_here", "_law_since_here"] (rW):=by
 refine T.A4.ok DT (λvs H Q E h=>?_) (λbK A outer s H vs Q E hr h=>?_)
 ·obtain ⟨b,k,x,_,_,_,_,rfl,_⟩:=h;rfl
 ·have nd:=DT.nd;have hu:=hr.units;obtain ⟨b,k,x,af,tr,tm,ps,rfl,hk,hb,hn,gd,q⟩:=h;refine bU ?_;intro Y
  let B0:Bk Y (nb (nb (aj wY) 2) 0):=⟨_,(xM (xk (xr (@PW.pt _ _ _ (gE (bZ (fU (xY (xW rfl) (pv 3) (pv 8) (λ_ _=>rfl)))) (gE (xi jf (xY (xW rfl) (pv 3) (pv 8) (λ_ _=>rfl)) (pv 6) (aB _)) (fR (bZ (cE (xY (xW rfl) (pv 3) (pv 9) (λ_ _=>rfl)))))))) (xM (xk (wc (pv 6) (iT (pv 3) (pv 9) set_list)))) xh)))⟩
  let B1:Bk Y (nb (aj wY) 2):=⟨_,(xM (xk (wQ PassesOwn.never rfl (wf rfl (wA (xK (xL (xz (xK (xL (pv 4) (xL (pv 5) xU rfl) rfl))) (xL (xz (xK (xL (pv 5) (xL (pv 4) xU rfl) rfl))) xU rfl) rfl)))) (xv (n:=2) rfl rfl (xS (xV (i:=8) nd rfl rfl) (xS (xV (i:=9) nd rfl rfl) xu))) B0.ps)))⟩
  let B2:Bk Y ((aj wY).drop 2):=⟨_,(xM (xf (wQ PassesOwn.never rfl (jV rfl (xY (xj rfl) (pv 0) xO (λ_ _=>rfl))) (xv (n:=4) rfl rfl (xS (xV (i:=4) nd rfl rfl) (xS (xV (i:=5) nd rfl rfl) (xS (xV (i:=6) nd rfl rfl) (xS (xV (i:=7) nd rfl rfl) xu))))) B1.ps) (xk (xZ (pv 3)))))⟩
  refine ⟨_,(xM (xf (xb (i:=3) nd rfl rfl (xg Jz (wA (xK (xL cV xU rfl))) (xc (xX rfl) (by rfl) T.bA PySem.boot_len (xK (xL (xY (xj rfl) (pv 0) xO (λ_ _=>rfl)) xU rfl))))) (xf (wc (pv 2) (iT (pv 3) (pv 1) set_list)) B2.bl))),?_⟩;have line:=bI;refine ⟨by show 1<=sizeLine;omega,λl0 K0=>?_⟩;have Mb:=hb.same (xP (o:=HO.lst [V.bG]) K0);refine (zr rfl (cH Mb.book rfl ⟨tr,zr rfl ⟨.inr (bC.of Mb.af),l0,aG rfl rfl ⟨xN,by omega,by rw [zA];omega,by rw [zA];show 1 * af.length<=sizeLine;omega,λl hl=>?_⟩⟩⟩));have tY:=(xP (o:=HO.lst [V.bG]) K0).trans (xP (o:=HO.lst (List.replicate (((af.map V.int).length:Int)).toNat [V.bG]).flatten) hl);have er:(List.replicate (((af.map V.int).length:Int)).toNat [V.bG]).flatten=(rep af.length (λ_=>none)).map oV:=by
   rw [yG,zA];unfold rep;rw [yC];generalize af.length=n;induction n with
   | zero=>rfl
   | succ n ih=>rw [yM,yh,ih,List.range_succ_eq_map,za,yC];rfl
  have Oq:H l=none:=(xP (o:=HO.lst [V.bG]) K0).free hl;refine (zr rfl (zr rfl (zr rfl ⟨l,_,_,k,rfl,rfl,xN,eL (by rw [er,zA,wn];exact hk),?_⟩)));have e1:((List.replicate (((af.map V.int).length:Int)).toNat [V.bG]).flatten).set k (.int x)=(rep af.length (aC k x)).map oV:=by
   rw [er];show _=(rep af.length (put (λ_=>none) k (some x))).map oV;rw [<-fQ hk,xJ];rfl
  rw [e1];have uZ:aA H (upd (upd (upd H l0 (HO.lst [V.bG])) l (HO.lst (List.replicate (((af.map V.int).length:Int)).toNat [V.bG]).flatten)) l (HO.lst ((rep af.length (aC k x)).map oV))):=aA.put Oq tY;have pD:=hb.same uZ;refine (zr rfl (cH pD.book rfl ⟨tm,rfl,⟨_,bC.of pD.meets⟩,?_⟩));refine (let W14:IV:=λi σ H4=>(∃ v4 v5 v6 v7 v8 v9,σ=[some (.ref b),some (.int k),some (.int x),some (.ref l),v4,v5,v6,v7,v8,v9])/\aA H H4/\H4 l=some (.lst ((rep af.length (fwd ((ps.map (·.2)).take i) (aC k x))).map oV));sF (K:=K) (a:=tm) (xs:=ps.map λa=>V.ref a.1) W14)
   ?_ (λi σ H4 _ h4=>bC.of ((hb.same h4.2.1).meets)) ?_ ?_
  ·exact ⟨⟨_,_,_,_,_,_,rfl⟩,uZ,xN⟩
  ·rintro i y σ H4 hy ⟨⟨v4,v5,v6,v7,v8,v9,rfl⟩,nR,h4⟩;obtain ⟨r,uF,rfl⟩:=wP hy;have hm:(ps.map (·.2))[i]?=some r.2:=by rw [zG,uF];rfl
   have rm:=zD uF;obtain ⟨a1,a2,a3,a4,a5,_⟩:=gd.at rm;have f6:=(hb.same nR).rows r rm;have z1:(r.2.lo.toNat:Int)=r.2.lo:=yN a1;have z2:(r.2.hi.toNat:Int)=r.2.hi:=yN (by omega);have gl:r.2.lo.toNat < af.length:=by omega
   have ol:r.2.hi.toNat < af.length:=by omega
   refine (KU f6 ?_);refine (zr rfl (zr rfl ⟨by show 2<=sizeLine;omega,λt1 ng=>(zr rfl (zr rfl ⟨by show 2<=sizeLine;omega,λt2 nW=>⟨by show 2<=sizeLine;omega,λll qV=>⟨ll,rfl,⟨_,aJ.of xN⟩,?_⟩⟩⟩))⟩));have Pe:=((xP (o:=HO.tup [.int r.2.lo,.int r.2.hi]) ng).trans (xP (o:=HO.tup [.int r.2.hi,.int r.2.lo]) nW)).trans (xP (o:=HO.lst [.ref t1,.ref t2]) qV);have h5:=Pe _ _ h4;have q1:=(xP (o:=HO.lst [.ref t1,.ref t2]) qV) t1 _ ((xP (o:=HO.tup [.int r.2.hi,.int r.2.lo]) nW) t1 _ (xN (H:=H4) (a:=t1) (o:=HO.tup [.int r.2.lo,.int r.2.hi])));have q2:=(xP (o:=HO.lst [.ref t1,.ref t2]) qV) t2 _ (xN (a:=t2) (o:=HO.tup [.int r.2.hi,.int r.2.lo]));have NP:ll≠l:=(xQ ((xP (o:=HO.tup [.int r.2.hi,.int r.2.lo]) nW) _ _ ((xP (o:=HO.tup [.int r.2.lo,.int r.2.hi]) ng) _ _ h4)) qV).symm;have WM:t1≠l:=(xQ h4 ng).symm;have WL:t2≠l:=(xQ ((xP (o:=HO.tup [.int r.2.lo,.int r.2.hi]) ng) _ _ h4) nW).symm;refine fL (K:=K) (a:=ll) (xs:=[V.ref t1,V.ref t2]) (λj σ H6=>(∃ v8 v9,σ=[some (.ref b),some (.int k),some (.int x),some (.ref l),some (.int r.2.lo),some (.int r.2.hi),some (.int r.2.t),some (.int r.2.m),v8,v9])/\aA H H6 /\
     H6 l=some (.lst ((rep af.length (((two r.2).take j).foldl aF (fwd ((ps.map (·.2)).take i) (aC k x)))).map oV))/\H6 ll=some (.lst [.ref t1,.ref t2])/\H6 t1=some (.tup [.int r.2.lo,.int r.2.hi])/\H6 t2=some (.tup [.int r.2.hi,.int r.2.lo]))
    ⟨⟨_,_,rfl⟩,nR.trans Pe,h5,xN,q1,q2⟩ (λj σ H6 _ h6=>aJ.of h6.2.2.2.1) ?_ ?_
   ·rintro j y σ H6 hy ⟨⟨v8,v9,rfl⟩,KW,h6,Mf,K3,K2⟩;obtain rfl | rfl:j=0\/j=1:=by
     have:j < 2:=(zC.mp hy).1;omega
    ·cases hy;generalize ef:((two r.2).take 0).foldl aF (fwd ((ps.map (·.2)).take i) (aC k x))=f at h6;have fo:((two r.2).take (0 + 1)).foldl aF (fwd ((ps.map (·.2)).take i) (aC k x))=aF f ⟨r.2.lo.toNat,r.2.hi.toNat,r.2.t⟩:=by
      rw [wM (r:=⟨r.2.lo.toNat,r.2.hi.toNat,r.2.t⟩) rfl,yy,ef];rfl
     have hg:dS ((rep af.length f).map oV) r.2.lo=some (oV (f r.2.lo.toNat)):=by rw [<-z1];exact xo (wO gl)
     have ho:dS ((rep af.length f).map oV) r.2.hi=some (oV (f r.2.hi.toNat)):=by rw [<-z2];exact xo (wO ol)
     refine (rS K3 ?_);have no:∀ (c:¬ (f r.2.hi.toNat=none/\below (f r.2.lo.toNat) r.2.t=true)),H6 l=some (.lst ((rep af.length (((two r.2).take (0 + 1)).foldl aF (fwd ((ps.map (·.2)).take i) (aC k x)))).map oV)):=λc=>by
      rw [fo];unfold aF;rw [if_neg c];exact h6
     refine (zr rfl (zr rfl (bR h6 hg (zr rfl ?_))));cases qX:f r.2.lo.toNat with
     | none=>
      exact aD rfl (aD rfl ⟨⟨_,_,rfl⟩,KW,no (λz=>by rw [qX] at z;cases z.2),Mf,K3,K2⟩)
     | some a=>
      rw [qX] at hg;refine aM rfl (zr rfl (zr rfl (bR h6 hg (zr rfl (aG rfl rfl (zr rfl (dP (λc=>?_) (λc=>?_))))))))
      ·refine (zr rfl (zr rfl (bR h6 ho (zr rfl (dP (λc2=>?_) (λc2=>?_))))))
       ·refine (zr rfl (zr rfl (zr rfl ⟨l,_,_,r.2.hi.toNat,rfl,rfl,h6,by rw [<-z2];exact eL (by rw [zA,wn];exact ol),⟨_,_,rfl⟩,aA.put Oq KW,?_,by rw [xR NP];exact Mf,by rw [xR WM];exact K3,by rw [xR WL];exact K2⟩)));rw [xN,fo];unfold aF;rw [if_pos ⟨gH.mp c2,aH.mpr ⟨a,qX,c⟩⟩,<- fQ ol,xJ];rfl
       ·exact ⟨⟨_,_,rfl⟩,KW,no (λz=>c2 (gH.mpr z.1)),Mf,K3,K2⟩
      ·exact aD rfl ⟨⟨_,_,rfl⟩,KW,no (λz=>by obtain ⟨w1,w2,w3⟩:=aH.mp z.2;rw [qX] at w2;cases w2;exact c w3),Mf,K3,K2⟩
    ·cases hy;generalize ef:((two r.2).take 1).foldl aF (fwd ((ps.map (·.2)).take i) (aC k x))=f at h6;have fo:((two r.2).take (1 + 1)).foldl aF (fwd ((ps.map (·.2)).take i) (aC k x))=aF f ⟨r.2.hi.toNat,r.2.lo.toNat,r.2.t⟩:=by
      rw [wM (r:=⟨r.2.hi.toNat,r.2.lo.toNat,r.2.t⟩) rfl,yy,ef];rfl
     have hg:dS ((rep af.length f).map oV) r.2.hi=some (oV (f r.2.hi.toNat)):=by rw [<-z2];exact xo (wO ol)
     have ho:dS ((rep af.length f).map oV) r.2.lo=some (oV (f r.2.lo.toNat)):=by rw [<-z1];exact xo (wO gl)
     refine (rS K2 ?_);have no:∀ (c:¬ (f r.2.lo.toNat=none/\below (f r.2.hi.toNat) r.2.t=true)),H6 l=some (.lst ((rep af.length (((two r.2).take (1 + 1)).foldl aF (fwd ((ps.map (·.2)).take i) (aC k x)))).map oV)):=λc=>by
      rw [fo];unfold aF;rw [if_neg c];exact h6
     refine (zr rfl (zr rfl (bR h6 hg (zr rfl ?_))));cases qX:f r.2.hi.toNat with
     | none=>
      exact aD rfl (aD rfl ⟨⟨_,_,rfl⟩,KW,no (λz=>by rw [qX] at z;cases z.2),Mf,K3,K2⟩)
     | some a=>
      rw [qX] at hg;refine aM rfl (zr rfl (zr rfl (bR h6 hg (zr rfl (aG rfl rfl (zr rfl (dP (λc=>?_) (λc=>?_))))))))
      ·refine (zr rfl (zr rfl (bR h6 ho (zr rfl (dP (λc2=>?_) (λc2=>?_))))))
       ·refine (zr rfl (zr rfl (zr rfl ⟨l,_,_,r.2.lo.toNat,rfl,rfl,h6,by rw [<-z1];exact eL (by rw [zA,wn];exact gl),⟨_,_,rfl⟩,aA.put Oq KW,?_,by rw [xR NP];exact Mf,by rw [xR WM];exact K3,by rw [xR WL];exact K2⟩)));rw [xN,fo];unfold aF;rw [if_pos ⟨gH.mp c2,aH.mpr ⟨a,qX,c⟩⟩,<- fQ gl,xJ];rfl
       ·exact ⟨⟨_,_,rfl⟩,KW,no (λz=>c2 (gH.mpr z.1)),Mf,K3,K2⟩
      ·exact aD rfl ⟨⟨_,_,rfl⟩,KW,no (λz=>by obtain ⟨w1,w2,w3⟩:=aH.mp z.2;rw [qX] at w2;cases w2;exact c w3),Mf,K3,K2⟩
   ·rintro σ H6 ⟨⟨v8,v9,rfl⟩,KW,h6,Mf,K3,K2⟩;refine ⟨⟨_,_,_,_,_,_,rfl⟩,KW,?_⟩;rw [h6,wM hm];unfold fwd aQ;rw [List.flatMap_append,yy];rfl
  ·rintro σ H4 ⟨⟨v4,v5,v6,v7,v8,v9,rfl⟩,nR,h4⟩;refine (zr rfl (q l _ Oq nR ?_));have e:(ps.map λa=>V.ref a.1).length=(ps.map (·.2)).length:=by simp
   rw [e,yD] at h4;exact h4
theorem Du:ay ["_law_purse_here_here", "_law_book_here_here", "_law_most", "_law_left", "_law_found", "_law_k_here", "_law_walker_here"] ["_law_purse_here_here", "_law_book_here_here", "_law_most"] (aq wN):=L2.bw
theorem Fs (T:Tx K mg a ak ai ah)(B:aW mg base):aT P w K mg base cB 4 a.Ar a.Ba ["_law_purse_here_here", "_law_book_here_here", "_law_most"] (qo):=by
 have Aa:=wD P w base T B;have DM:=Er P w base T B;refine T.AJ.ok Du (λvs H Q E h=>?_) (λbK A outer s H vs Q E hr h=>?_)
 ·obtain ⟨_,_,_,_,_,_,_,rfl,_⟩:=h;rfl
 ·have nd:=Du.nd;have hu:=hr.units;obtain ⟨p,b,m,af,tr,tm,ps,rfl,m1,m4,pu,hb,gd,r1,ud,q⟩:=h;refine bU ?_;intro Y
  let B0:Bk Y ((nb (aj wN) 2).drop 1):=⟨_,(xM (xk (wl (dN zV zc zd wE (pv 4) (xK (xL (xz (xK (xL (pv 6) (xL (xT DM (hr.mono (by decide)) rfl T.E2 T.E5 T.E8 .nil av (xK (xL (pv 0) (xL (pv 1) (xL xO xU rfl) rfl) rfl))) xU rfl) rfl))) xU rfl))))))⟩
  let B1:Bk Y (nb (aj wN) 2):=⟨_,(xM (xf (xb (i:=6) nd rfl rfl (dN zV PySem.F.slot_list_pop PySem.F.type_list_pop JJ (pv 3) (xK (xL (xT Aa (hr.mono (by decide)) rfl T.Ab T.Ac T.Ae .nil av (xK (xL (pv 0) (xL (xc (xX rfl) (by rfl) T.bA PySem.boot_len (xK (xL (pv 3) xU rfl))) xU rfl) rfl))) xU rfl)))) B0.bl))⟩
  let B2:Bk Y ((aj wN).drop 2):=⟨_,(xM (xf (wQ PassesOwn.never rfl (b9 rfl T.cz (xK (xL (xg xt xO (xT Aa (hr.mono (by decide)) rfl T.Ab T.Ac T.Ae .nil av (xK (xL (pv 0) (xL (xc (i6 rfl) (by rfl) T.pX yd (xK (xL (pv 2) (xL (xc (xX rfl) (by rfl) T.bA PySem.boot_len (xK (xL (pv 3) xU rfl))) xU rfl) rfl))) xU rfl) rfl)))) xU rfl))) (xV (i:=5) nd rfl rfl) B1.ps) (xk (xZ (pv 4)))))⟩
  refine ⟨_,(xM (xf (xb (i:=3) nd rfl rfl (mX rfl rfl T.nK rfl T.cz (xK (xL (xc (xX rfl) (by rfl) T.bA PySem.boot_len (xK (xL (xY (xj rfl) (pv 1) xO (λ_ _=>rfl)) xU rfl))) xU rfl)))) (xf (xb (i:=4) nd rfl rfl (wA cj)) B2.bl))),?_⟩;have line:=bI;have uN:(2:Int) ^ 200 > 10000:=by decide
  refine (zr rfl (cH hb.book rfl ⟨tr,zr rfl ⟨.inr (bC.of hb.af),af.length,by rw [zA],by omega,λll qV=>⟨zY _,λlf J0=>?_⟩⟩⟩));have s1:=(xP (o:=HO.lst (List.map (λk:Nat=>V.int (k:Int)) (List.range af.length))) qV).trans (xP (o:=HO.lst []) J0);have fl:H lf=none:=(xP qV).free J0;have NP:ll≠p:=pu.ne qV;have Qp:lf≠p:=pu.ne fl;have UJ:lf≠ll:=λz=>by rw [z,xN] at J0;cases J0
  have h1:upd (upd H ll (HO.lst (List.map (λk:Nat=>V.int (k:Int)) (List.range af.length)))) lf (HO.lst []) ll=some (.lst (List.map (λk:Nat=>V.int (k:Int)) (List.range af.length))):=by rw [xR UJ.symm,xN]
  have h1f:upd (upd H ll (HO.lst (List.map (λk:Nat=>V.int (k:Int)) (List.range af.length)))) lf (HO.lst []) lf=some (.lst []):=xN;have g1:Go p H (upd (upd H ll (HO.lst (List.map (λk:Nat=>V.int (k:Int)) (List.range af.length)))) lf (HO.lst [])):=(Go.refl pu).same s1;generalize upd (upd H ll (HO.lst (List.map (λk:Nat=>V.int (k:Int)) (List.range af.length)))) lf (HO.lst [])=H1 at *;refine (zr rfl (zr rfl (zr rfl ⟨ll,zr rfl ⟨.inl (aJ.of h1),mO rfl ⟨p,zr rfl ⟨?_,?_,g1.2,λd H2 d0 d1 g2=>?_⟩⟩⟩⟩)))
  ·rw [zA,yH];split <;> omega
  ·rw [zA,yH];split <;> omega
  rw [zA,yH] at d1;obtain ⟨d,rfl⟩:=zg d0;have dn:d < af.length/\(d:Int) < m:=by split at d1 <;> omega
  refine (aG rfl rfl (zr rfl ⟨by omega,by omega,?_⟩));refine (let W15:IV:=λi σ H5=>∃ (ks:List Nat) (ws:List (Addr×Nat×Int)),(∃ v5 v6,σ=[some (.ref p),some (.ref b),some (.int m),some (.ref ll),some (.ref lf),v5,v6])/\Go p H H5/\H5 ll=some (.lst (ks.map λk:Nat=>V.int (k:Int)))/\ks.length + i=af.length/\(∀ x∈ks,x < af.length)/\bS H5 lf af.length ws/\fY ws/\ws.length=i;dQ (lo:=0) W15 ?_ ?_ ?_)
  ·exact ⟨List.range af.length,[],⟨_,_,rfl⟩,g1.trans g2,g2.1 _ _ NP h1,by simp,λx hx=>zj.mp hx,⟨g2.1 _ _ Qp h1f,λ_ z=>nomatch z⟩,(λ_ z=>nomatch z),rfl⟩
  ·rintro i σ H5 hi ⟨ks,ws,⟨v5,v6,rfl⟩,g5,h5,lk,kn,hw,lo,lw⟩;have f9:i < d + 1:=by omega
   have k0:0 < ks.length:=by omega
   refine (zr rfl ⟨.inl ⟨rfl,_,aJ.of h5⟩,zr rfl (zr rfl ⟨ll,zr rfl ⟨.inl (aJ.of h5),p,zr rfl ⟨by rw [zA];omega,by rw [zA];omega,g5.2,λe H6 e0 e1 g6=>?_⟩⟩⟩)⟩);rw [zA] at e1;obtain ⟨e,rfl⟩:=zg e0;have he:e < ks.length:=by omega
   have h6:=g6.1 _ _ NP h5;have XQ:=g5.trans g6;have U8:bS H6 lf af.length ws:=⟨g6.1 _ _ Qp hw.1,λx hx=>⟨g6.aR g5.2 _ _ (hw.2 x hx).1,(hw.2 x hx).2⟩⟩;refine ⟨ll,_,(e:Int),e,V.int (ks[e]:Int),rfl,rfl,h6,by omega,by omega,(m9 (eL (by rw [zA];exact he))).1,by simp [he],?_⟩;have wk:ks[e] < af.length:=kn _ (z4 he);have g7:Go p H (upd H6 ll (HO.lst ((ks.map λk:Nat=>V.int (k:Int)).eraseIdx e))):=⟨λx u n c=>by rw [xR (xQ c qV)];exact XQ.1 x u n c,by obtain ⟨x1,x2,x3,c⟩:=XQ.2;exact ⟨x1,x2,x3,by rw [xR NP.symm];exact c⟩⟩;have h7:upd H6 ll (HO.lst ((ks.map λk:Nat=>V.int (k:Int)).eraseIdx e)) ll=some (.lst ((ks.eraseIdx e).map λk:Nat=>V.int (k:Int))):=by rw [xN,List.eraseIdx_eq_take_drop_succ,List.eraseIdx_eq_take_drop_succ,zF,List.map_take,List.map_drop]
   have t7:=bL.set (o:=HO.lst ((ks.map λk:Nat=>V.int (k:Int)).eraseIdx e)) h6;have Sb:bS (upd H6 ll (HO.lst ((ks.map λk:Nat=>V.int (k:Int)).eraseIdx e))) lf af.length ws:=⟨by rw [xR UJ];exact U8.1,λx hx=>⟨t7 _ _ (U8.2 x hx).1,(U8.2 x hx).2⟩⟩;generalize upd H6 ll (HO.lst ((ks.map λk:Nat=>V.int (k:Int)).eraseIdx e))=H7 at *;have ZZ:=hb.aR (g7.aR pu);refine (zr rfl ⟨.inl ⟨rfl,_,aJ.of Sb.1⟩,zr rfl (zr rfl (zr rfl (vc p b 1 af tr tm ps ⟨rfl,.inr rfl,ZZ,gd,g7.2,λz H9 z0 z1 g9=>?_⟩)))⟩);have ZS:=g9.1 _ _ Qp Sb.1;have h9:=g9.1 _ _ NP h7;refine ⟨by show 2<=sizeLine;omega,λt ht=>?_⟩;have jP:=xP (o:=HO.tup [V.int (ks[e]:Int),V.int z]) ht;have Q6:=jP _ _ ZS;refine ⟨lf,_,_,rfl,rfl,Q6,by rw [zA];omega,ks.eraseIdx e,ws++[(t,ks[e],z)],⟨_,_,rfl⟩,?_,?_,?_,λx hx=>kn x ((List.eraseIdx_sublist ks e).subset hx),⟨by rw [xN,zF];rfl,λx hx=>?_⟩,(λx hx=>by
    rcases zQ.mp hx with h | h
    ·exact lo x h
    ·cases zN.mp h;exact ⟨z0,z1⟩),by rw [zO,lw];rfl⟩
   ·have nX:=(g7.trans g9).same jP;exact ⟨λx u n c=>by rw [xR (xQ c fl)];exact nX.1 x u n c,by obtain ⟨x1,x2,x3,c⟩:=nX.2;exact ⟨x1,x2,x3,by rw [xR Qp.symm];exact c⟩⟩
   ·rw [xR UJ.symm];exact jP _ _ h9
   ·rw [List.length_eraseIdx_of_lt he];omega
   ·have tt:=bL.set (o:=HO.lst ((ws.map λx=>V.ref x.1)++[V.ref t])) Q6;rcases zQ.mp hx with h | h
    ·exact ⟨tt _ _ (jP _ _ (g9.aR g7.2 _ _ (Sb.2 x h).1)),(Sb.2 x h).2⟩
    ·cases zN.mp h;exact ⟨tt _ _ xN,wk⟩
  ·rintro σ H5 ⟨ks,ws,⟨v5,v6,rfl⟩,g5,h5,lk,kn,hw,lo,lw⟩;exact (zr rfl (q lf ws H5 g5 fl Qp hw lo (by omega) (by omega)))
theorem CB:ay ["_law_book_here_here", "_law_sender_here", "_law_since_here", "_law_steps", "_law_times_here_here", "_law_ahead_here", "_law_step_here", "_law_one_here", "_law_other_here", "_law_when", "_law_passed"] ["_law_book_here_here", "_law_sender_here", "_law_since_here", "_law_steps"] (aq xp):=L2.bw
theorem D5 (T:Tx K mg a ak ai ah)(B:aW mg base):aT P w K mg base cB 2 a.Af a.Ao ["_law_book_here_here", "_law_sender_here", "_law_since_here", "_law_steps"] (kW):=by
 have Cv:=D1 P w base T B;refine T.Ah.ok CB (λvs H Q E h=>?_) (λbK A outer s H vs Q E hr h=>?_)
 ·obtain ⟨_,_,_,_,_,_,_,_,_,_,rfl,_⟩:=h;rfl
 ·have nd:=CB.nd;have hu:=hr.units;obtain ⟨b,k,a0,lt,af,tr,tm,ps,Tl,h0,rfl,hb,gd,ud,hk,klt,gv,Ub,q⟩:=h;refine bU ?_;intro Y
  let B0:Bk Y ((nb (aj xp) 4).drop 4):=⟨_,(xM (xf (xr (bZ (cE (xY (xW rfl) (pv 4) (xg cF (xg xt (pv 7) (pv 8)) (xY (xj rfl) (pv 6) xO (λ_ _=>rfl))) (λ_ _=>rfl)))) (xM (xk (wc (pv 9) (iT (pv 4) (xg cF (xg xt (pv 7) (pv 8)) (xY (xj rfl) (pv 6) xO (λ_ _=>rfl))) set_list)))) xh) (xk (xb (i:=5) nd rfl rfl (xY (xj rfl) (pv 6) xO (λ_ _=>rfl))))))⟩
  let B1:Bk Y ((nb (aj xp) 4).drop 3):=⟨_,(xM (xf (xr (@PW.pt _ _ _ (cU (xi mZ (xY (xj rfl) (pv 6) xO (λ_ _=>rfl)) (xz (xK (xL (pv 7) (xL (pv 8) xU rfl) rfl))) rfl) (cU (bZ (cE (xY (xW rfl) (pv 4) (xY (xj rfl) (pv 6) xO (λ_ _=>rfl)) (λ_ _=>rfl)))) (cC (xi MC (xY (xW rfl) (pv 4) (xY (xj rfl) (pv 6) xO (λ_ _=>rfl)) (λ_ _=>rfl)) (pv 9) (aB _)))))) (xM (xk (xZ cV))) xh) B0.bl))⟩
  let B2:Bk Y ((nb (aj xp) 4).drop 2):=⟨_,(xM (xf (wc (xY (xj rfl) (xY (xj rfl) (pv 0) xO (λ_ _=>rfl)) (xY (xj rfl) (pv 6) xO (λ_ _=>rfl)) (λ_ _=>rfl)) (xv (n:=4) rfl rfl (xS (xV (i:=7) nd rfl rfl) (xS (xV (i:=8) nd rfl rfl) (xS (xV (i:=9) nd rfl rfl) (xS (xV (i:=10) nd rfl rfl) xu)))))) B1.bl))⟩
  let B3:Bk Y ((nb (aj xp) 4).drop 1):=⟨_,(xM (xf (xr (wo (vV jf jf (pv 5) (xY (xj rfl) (pv 6) xO (λ_ _=>rfl)) (xc (xX rfl) (by rfl) T.bA PySem.boot_len (xK (xL (xY (xj rfl) (pv 0) xO (λ_ _=>rfl)) xU rfl))))) (xM (xk (xZ cV))) xh) B2.bl))⟩
  let B4:Bk Y (nb (aj xp) 4):=⟨_,(xM (xf (xr (@PW.pt _ _ _ (cU (wo (wb (xc (wH) (by rfl) T.aZ zh (xK (xL (pv 6) (xL (cN (v:=V.ty "tuple") rfl T.iB yV rfl) xU rfl) rfl))))) (cU (xi ic (xc (xX rfl) (by rfl) T.bA PySem.boot_len (xK (xL (pv 6) xU rfl))) xO (aB _)) (cU (wo (wb (xT Cv (hr.mono (by decide)) rfl T.C4 T.C6 T.C8 .nil av (xK (xL (xY (xj rfl) (pv 6) xO (λ_ _=>rfl)) xU rfl))))) (cC (wo (wb (xT Cv (hr.mono (by decide)) rfl T.C4 T.C6 T.C8 .nil av (xK (xL (xY (xj rfl) (pv 6) xO (λ_ _=>rfl)) xU rfl)))))))))) (xM (xk (xZ cV))) xh) B3.bl))⟩
  let B5:Bk Y ((aj xp).drop 2):=⟨_,(xM (xf (wc (pv 2) (iT (pv 4) (pv 1) set_list)) (xf (xb (i:=5) nd rfl rfl (cJ wd xO)) (xf (wQ PassesOwn.never rfl (wf rfl (pv 3)) (xV (i:=6) nd rfl rfl) B4.ps) (xk (xZ (pv 4)))))))⟩
  let B6:Bk Y ((aj xp).drop 1):=⟨_,(xM (xf (xb (i:=4) nd rfl rfl (xg Jz (wA (xK (xL cV xU rfl))) (xc (xX rfl) (by rfl) T.bA PySem.boot_len (xK (xL (xY (xj rfl) (pv 0) xO (λ_ _=>rfl)) xU rfl))))) B5.bl))⟩
  refine ⟨_,(xM (xf (xr (wo (wb (xc (wH) (by rfl) T.aZ zh (xK (xL (pv 3) (xL (cN (v:=V.ty "list") rfl T.nK PyProof.Rows.boot_list rfl) xU rfl) rfl))))) (xM (xk (xZ cV))) xh) B6.bl)),?_⟩;have line:=bI;have RY:=gd.len;refine (zr rfl ⟨_, "list", "list", rfl,rT klt,.inr (.inr (.inl rfl)),zr rfl (aD rfl ?_)⟩);refine ⟨by show 1<=sizeLine;omega,λl0 K0=>?_⟩;have Mb:=hb.same (xP (o:=HO.lst [V.bG]) K0);refine (zr rfl (cH Mb.book rfl ⟨tr,zr rfl ⟨.inr (bC.of Mb.af),l0,aG rfl rfl ⟨xN,by omega,by rw [zA];omega,by rw [zA];show 1 * af.length<=sizeLine;omega,λl hl=>?_⟩⟩⟩));have tY:=(xP (o:=HO.lst [V.bG]) K0).trans (xP (o:=HO.lst (List.replicate (((af.map V.int).length:Int)).toNat [V.bG]).flatten) hl);have er:(List.replicate (((af.map V.int).length:Int)).toNat [V.bG]).flatten=(rep af.length (λ_=>none)).map oV:=by
   rw [yG,zA];unfold rep;rw [yC];generalize af.length=n;induction n with
   | zero=>rfl
   | succ n ih=>rw [yM,yh,ih,List.range_succ_eq_map,za,yC];rfl
  have Oq:H l=none:=(xP (o:=HO.lst [V.bG]) K0).free hl;refine (zr rfl (zr rfl (zr rfl ⟨l,_,_,k,rfl,rfl,xN,eL (by rw [er,zA,wn];exact hk),?_⟩)));have e1:((List.replicate (((af.map V.int).length:Int)).toNat [V.bG]).flatten).set k (.int a0)=(rep af.length (aC k a0)).map oV:=by
   rw [er];show _=(rep af.length (put (λ_=>none) k (some a0))).map oV;rw [<-fQ hk,xJ];rfl
  rw [e1];have uZ:aA H (upd (upd (upd H l0 (HO.lst [V.bG])) l (HO.lst (List.replicate (((af.map V.int).length:Int)).toNat [V.bG]).flatten)) l (HO.lst ((rep af.length (aC k a0)).map oV))):=aA.put Oq tY;have k2:upd (upd (upd H l0 (HO.lst [V.bG])) l (HO.lst (List.replicate (((af.map V.int).length:Int)).toNat [V.bG]).flatten)) l (HO.lst ((rep af.length (aC k a0)).map oV)) l=some (.lst ((rep af.length (aC k a0)).map oV)):=xN;generalize upd (upd (upd H l0 (HO.lst [V.bG])) l (HO.lst (List.replicate (((af.map V.int).length:Int)).toNat [V.bG]).flatten)) l (HO.lst ((rep af.length (aC k a0)).map oV))=H2 at uZ k2 ⊢;refine (zr rfl (zr rfl ⟨lt,rfl,⟨_,aJ.of (uZ _ _ klt)⟩,?_⟩));refine (let W16:IV:=λi σ H5=>∃ f,∃ j:Nat,∃ z:Int,z + 1=(j:Int)/\(∃ v6 v7 v8 v9 v10,σ=[some (.ref b),some (.int (k:Int)),some (.int a0),some (.ref lt),some (.ref l),some (.int z),v6,v7,v8,v9,v10])/\aA H H5/\H5 l=some (.lst ((rep af.length f).map oV))/\gP (ps.map (·.2)) j f ((Tl.map (·.2)).drop i) h0;fL (K:=K) (a:=lt) (xs:=Tl.map λx=>V.ref x.1) W16 ⟨aC k a0,0,-1,rfl,⟨_,_,_,_,_,rfl⟩,uZ,k2,Ub⟩ ?_ ?_ ?_)
  ·rintro i σ H5 _ ⟨_,_,_,_,_,s5,_,_⟩;exact aJ.of (s5 _ _ klt)
  ·rintro i v σ H5 hv ⟨f,j,z,ez,⟨v6,v7,v8,v9,v10,rfl⟩,s5,k5,t5⟩;obtain ⟨x,hx,rfl⟩:=wP hv;obtain ⟨xa,m,g⟩:=x;have kx:H5 xa=some (.tup [V.int (m:Int),V.int (g:Int)]):=s5 _ _ (gv _ (zD hx));have Xa:(Tl.map (·.2))[i]?=some (m,g):=by rw [zG,hx];rfl
   rw [List.drop_eq_getElem_cons (zC.mp Xa).1,(zC.mp Xa).2] at t5;cases t5 with
   | @cons _ _ _ o t x0 _ _ _ hj lk hg ltt rr=>
   obtain ⟨gW,oW,_⟩:=lk.inside gd;obtain ⟨mm,Oi,XW,Sv⟩:=id lk;have fx:=gd.each mm (zD Oi);have mW:m < ps.length:=by have:=(zC.mp Oi).1;rwa [zA] at this
   obtain ⟨xm,LV,exm⟩:∃ x,ps[m]?=some x/\x.2=mm:=by
    rw [zG,zI mW] at Oi;exact ⟨ps[m],zI mW,Option.some.inj Oi⟩
   have MI:=hb.same s5;have WU:=MI.rows xm (zD LV);rw [exm] at WU;have X3:∀ {f:Fn}{y:Int},f g=some y->dS ((rep af.length f).map oV) (g:Int)=some (V.int y):=λh=>by rw [xo (wO gW),h];rfl
   have eo:mm.lo + mm.hi - (g:Int)=(o:Int):=by rcases Sv with ⟨c1,c2⟩ | ⟨c1,c2⟩ <;> omega
   have ato:dS ((rep af.length f).map oV) (mm.lo + mm.hi - (g:Int))=some (oV (f o)):=by rw [eo];exact xo (wO oW)
   have Xl:uE (V.int (g:Int)) [V.int mm.lo,V.int mm.hi]=true:=by
    rw [fH,yX,decide_eq_true_eq,decide_eq_true_eq];rcases Sv with ⟨c1,c2⟩ | ⟨c1,c2⟩ <;> omega
   refine (zr rfl ⟨_, "tuple", "tuple", rfl,jz kx,.inr (.inr (.inr rfl)),zr rfl (aD rfl (zr rfl ⟨xa,zr rfl ⟨.inr (bC.of kx),rfl,zr rfl (aD rfl (zr rfl (cH kx rfl ⟨_, "int", rfl,rfl,zr rfl (aD rfl (zr rfl (cH kx rfl ⟨_, "int", rfl,rfl,zr rfl (aD rfl ?_)⟩)))⟩)))⟩⟩))⟩);refine (zr rfl (zr rfl (cH kx rfl (aG rfl rfl (zr rfl (aM (decide_eq_true (by omega)) (zr rfl (cH MI.book rfl ⟨tm,zr rfl ⟨.inr (bC.of MI.meets),aG rfl rfl (zr rfl (aD (by rw [decide_eq_true (by rw [zA];omega)];rfl) ?_))⟩⟩))))))));refine (zr rfl (cH MI.book rfl (zr rfl (cH kx rfl (cH MI.meets (xo (by rw [zG,LV];rfl)) (KU WU ?_))))));refine (zr rfl (cH kx rfl (zr rfl (zr rfl ⟨by show 2<=sizeLine;omega,λt1 ng=>?_⟩))));have s6:=s5.trans (xP (o:=HO.tup [V.int mm.lo,V.int mm.hi]) ng);have k6:upd H5 t1 (HO.tup [V.int mm.lo,V.int mm.hi]) t1=some (.tup [V.int mm.lo,V.int mm.hi]):=xN;have MD:=xP (o:=HO.tup [V.int mm.lo,V.int mm.hi]) ng _ _ kx;have NY:=xP (o:=HO.tup [V.int mm.lo,V.int mm.hi]) ng _ _ k5;generalize upd H5 t1 (HO.tup [V.int mm.lo,V.int mm.hi])=H6 at s6 k6 MD NY ⊢;refine ⟨t1,zr rfl ⟨.inr (bC.of k6),rfl,rfl,zr rfl (aD (by rw [if_pos rfl,Xl];rfl) ?_)⟩⟩;refine (zr rfl (zr rfl (cH MD rfl (bR NY (X3 hg) (zr rfl (aD rfl ?_))))));refine (zr rfl (zr rfl (cH MD rfl (bR NY (X3 hg) (zr rfl (aG rfl rfl (zr rfl (aD (decide_eq_false (by omega)) ?_))))))));refine (zr rfl (zr rfl (zr rfl (aG rfl rfl (zr rfl (cH MD rfl (aG rfl rfl (bR NY ato (zr rfl ?_)))))))));refine kZ (fun σ H7=>(∃ v7 v8 v9 v10,σ=[some (.ref b),some (.int (k:Int)),some (.int a0),some (.ref lt),some (.ref l),some (.int z),some (.ref xa),v7,v8,v9,v10])/\aA H H7/\H7 xa=some (.tup [V.int (m:Int),V.int (g:Int)])/\H7 l=some (.lst ((rep af.length (if f o=none then put f o (some t) else f)).map oV))) ?_ (λc kk=>?_) (λc=>⟨⟨_,_,_,_,rfl⟩,s6,MD,?_⟩)
   ·rintro σ H7 ⟨⟨v7,v8,v9,v10,rfl⟩,s7,Ze,Zh⟩;exact (zr rfl (cH Ze rfl ⟨_,m + 1,(m:Int),rfl,⟨_,_,_,_,_,rfl⟩,s7,Zh,rr⟩))
   ·have fo:f o=none:=by
     cases e:f o with
     | none=>rfl
     | some y=>rw [e] at c;cases c
    refine (zr rfl (zr rfl (zr rfl (zr rfl (aG rfl rfl (zr rfl (cH MD rfl (aG rfl rfl ⟨l,_,_,o,rfl,rfl,NY,by rw [eo];exact eL (by rw [zA,wn];exact oW),kk _ _ ⟨⟨_,_,_,_,rfl⟩,aA.put Oq s6,by rw [xR (bY MD NY (by intro z;cases z))];exact MD,?_⟩⟩))))))));rw [xN,if_pos fo,<- fQ oW,xJ,XW];rfl
   ·rw [if_neg (λe=>by rw [e] at c;cases c)];exact NY
  ·rintro σ H5 ⟨f,j,z,ez,⟨v6,v7,v8,v9,v10,rfl⟩,s5,k5,t5⟩;rw [zA,show (Tl.map (·.2)).drop Tl.length=[] from List.drop_of_length_le (by rw [zA];exact zB _)] at t5;cases t5;exact (zr rfl (q l H5 s5 k5))
theorem Dv:ay ["_law_times_here_here", "_law_wishes_here_here"] ["_law_times_here_here", "_law_wishes_here_here"] (aq wj):=L2.bw
theorem Ft (T:Tx K mg a ak ai ah)(B:aW mg base):aT P w K mg base cB 1 a.As a.Bb ["_law_times_here_here", "_law_wishes_here_here"] (qq):=by
 refine T.AK.ok Dv (λvs H Q E h=>?_) (λbK A outer s H vs Q E hr h=>?_)
 ·obtain ⟨_,_,_,_,_,rfl,_⟩:=h;rfl
 ·have nd:=Dv.nd;have hu:=hr.units;obtain ⟨l,lw,n,h0,ws,rfl,kl,wa,w4,sv,q⟩:=h;refine bU ?_;intro Y
  let B0:Bk Y ((aj wj).drop 1):=⟨_,(xM (xk (xZ (xc (pR rfl rfl) (by rfl) T.MR PyProof.Rows.boot_all (xK (xL (dh (own:=["_law_walker_here", "_law_last_here"]) (caps:=[0]) rfl (show bq ["_law_walker_here", "_law_last_here"] [0] ["_law_times_here_here", "_law_wishes_here_here"] (aq wj) _ from L2.nE) (wf rfl (pv 1)) (λ_ _ _ _=>(xv (n:=2) rfl rfl (xS (xV (i:=0) (show List.Nodup (["_law_walker_here", "_law_last_here", "_law_times_here_here"]:List Str) from by decide +kernel) rfl rfl) (xS (xV (i:=1) (show List.Nodup (["_law_walker_here", "_law_last_here", "_law_times_here_here"]:List Str) from by decide +kernel) rfl rfl) xu)))) (λ_ _ _ _=>dZ) (λ_ _ _ _=>(cD (jX (fU (xY (xW rfl) (pv 2) (pv 0) (λ_ _=>rfl)))) (cg (cM gc (xY (xW rfl) (pv 2) (pv 0) (λ_ _=>rfl)) (pv 1) (aB _)))))) xU rfl))))))⟩
  refine ⟨_,(xM (xf (xr (bZ (cE (pv 0))) (xM (xk (xZ eY))) xh) B0.bl)),?_⟩;have line:=bI;refine (zr rfl (zr rfl (aD rfl ?_)));refine (zr rfl ⟨lw,rfl,⟨_,aJ.of wa.1⟩,?_⟩);refine (let W17:IC:=λi τ acc H5=>(∃ t0 t1,τ=[t0,t1,some (.ref l)])/\acc=List.map V.bl (List.replicate i true)/\H5=H;dR (K:=K) (a:=lw) (xs:=ws.map λa=>V.ref a.1) W17 ⟨⟨_,_,rfl⟩,rfl,rfl⟩ (by rw [zA];omega) ?_ ?_ ?_)
  ·rintro i τ acc H5 ⟨_,rfl,rfl⟩;exact ⟨by rw [zA,List.length_replicate];exact zB _,aJ.of wa.1⟩
  ·rintro i v τ acc H5 C hv ⟨⟨t0,t1,rfl⟩,rfl,rfl⟩ hC;obtain ⟨x,hx,rfl⟩:=wP hv;obtain ⟨kx,lx⟩:=wa.2 x (zD hx);obtain ⟨y,hy,le⟩:=aK.mp (sv i x.2 (by unfold wq;rw [zG,hx];rfl));have ha:dS ((rep n h0).map oV) (x.2.1:Int)=some (V.int y):=by rw [xo (wO lx),hy];rfl
   refine (rS kx ?_);refine (zr rfl (zr rfl (bR kl ha (zr rfl (aM rfl (zr rfl (zr rfl (bR kl ha (zr rfl (aG rfl rfl (hC _ _ _ ⟨⟨_,_,rfl⟩,?_,rfl⟩)))))))))));show List.map V.bl (List.replicate i true)++[V.bl (decide (y<=x.2.2))]=_;rw [decide_eq_true le,List.replicate_succ',zF];rfl
  ·rintro τ acc H5 ⟨_,rfl,rfl⟩ lc qW;refine ⟨lc,zr rfl ⟨aJ.of xN,?_⟩⟩;rw [show (List.replicate (ws.map λa=>V.ref a.1).length true).all id=true by simp];exact q _ (xP qW)
theorem Em:ay ["_law_book_here_here", "_law_letter_here", "_law_numbers", "_law_sender_here", "_law_since_here", "_law_wish_here", "_law_last_here", "_law_one_here", "_law_other_here", "_law_when", "_law_passed", "_law_giver", "_law_taker"] ["_law_book_here_here", "_law_letter_here", "_law_numbers"] (aq wB):=L2.bw
theorem Gu (T:Tx K mg a ak ai ah)(B:aW mg base):aT P w K mg base cB 2 a.AX a.BS ["_law_book_here_here", "_law_letter_here", "_law_numbers"] (Ll):=by
 have Cv:=D1 P w base T B;refine T.Bs.ok Em (λvs H Q E h=>?_) (λbK A outer s H vs Q E hr h=>?_)
 ·obtain ⟨_,_,_,_,_,_,_,_,_,_,_,_,rfl,_⟩:=h;rfl
 ·have nd:=Em.nd;have hu:=hr.units;obtain ⟨b,lt,l,f,s0,w0,a0,z0,af,tr,tm,ps,rfl,hb,hn,gd,hL,h1,hB,q⟩:=h;refine bU ?_;intro Y
  let B0:Bk Y (nb (nb (nb (aj wB) 4) 0) 0):=⟨_,(xM (xk (xr (@PW.pt _ _ _ (cU (bZ (cE (xY (xW rfl) (pv 2) (pv 12) (λ_ _=>rfl)))) (cC (xi gf (xY (xW rfl) (pv 2) (pv 12) (λ_ _=>rfl)) (pv 9) (aB _))))) (xM (xk (xZ eY))) xh)))⟩
  let B1:Bk Y (nb (nb (aj wB) 4) 0):=⟨_,(xM (xk (xr (@PW.pt _ _ _ (gE (bZ (fU (xY (xW rfl) (pv 2) (pv 11) (λ_ _=>rfl)))) (fR (xi jf (xY (xW rfl) (pv 2) (pv 11) (λ_ _=>rfl)) (pv 9) (aB _))))) B0.ps xh)))⟩
  let B2:Bk Y (nb (aj wB) 4):=⟨_,(xM (xk (wQ PassesOwn.never rfl (wf rfl (wA (xK (xL (xz (xK (xL (pv 7) (xL (pv 8) xU rfl) rfl))) (xL (xz (xK (xL (pv 8) (xL (pv 7) xU rfl) rfl))) xU rfl) rfl)))) (xv (n:=2) rfl rfl (xS (xV (i:=11) nd rfl rfl) (xS (xV (i:=12) nd rfl rfl) xu))) B1.ps)))⟩
  let B3:Bk Y ((aj wB).drop 4):=⟨_,(xM (xf (wQ PassesOwn.never rfl (jV rfl (xY (xj rfl) (pv 0) xO (λ_ _=>rfl))) (xv (n:=4) rfl rfl (xS (xV (i:=7) nd rfl rfl) (xS (xV (i:=8) nd rfl rfl) (xS (xV (i:=9) nd rfl rfl) (xS (xV (i:=10) nd rfl rfl) xu))))) B2.ps) (xk (xZ (Jt (jX (cE (xY (xW rfl) (pv 2) (pv 5) (λ_ _=>rfl)))) (cg (cM gf (xY (xW rfl) (pv 2) (pv 5) (λ_ _=>rfl)) (pv 6) (aB _))))))))⟩
  let B4:Bk Y ((aj wB).drop 3):=⟨_,(xM (xf (xr (@PW.pt _ _ _ (cU (bZ (cE (xY (xW rfl) (pv 2) (pv 3) (λ_ _=>rfl)))) (cC (xi gf (xY (xW rfl) (pv 2) (pv 3) (λ_ _=>rfl)) (pv 4) (aB _))))) (xM (xk (xZ eY))) xh) B3.bl))⟩
  let B5:Bk Y ((aj wB).drop 2):=⟨_,(xM (xf (xr (wo (wb (xc (pR rfl rfl) (by rfl) T.MR PyProof.Rows.boot_all (xK (xL (dh (own:=["_law_number"]) (caps:=[]) rfl (show bq ["_law_number"] [] ["_law_book_here_here", "_law_letter_here", "_law_numbers", "_law_sender_here", "_law_since_here", "_law_wish_here", "_law_last_here", "_law_one_here", "_law_other_here", "_law_when", "_law_passed", "_law_giver", "_law_taker"] (aq wB) _ from L2.nE) (wf rfl (pv 2)) (λ_ _ _ _=>(xV (i:=0) (show List.Nodup (["_law_number"]:List Str) from by decide +kernel) rfl rfl)) (λ_ _ _ _=>dZ) (λ_ _ _ _=>(Jt (jX (cE (pv 0))) (cg (xT Cv (hr.mono (by decide)) rfl T.C4 T.C6 T.C8 .nil av (xK (xL (pv 0) xU rfl))))))) xU rfl))))) (xM (xk (xZ eY))) xh) B4.bl))⟩
  let B6:Bk Y ((aj wB).drop 1):=⟨_,(xM (xf (xr (@PW.pt _ _ _ (cU (wo (wb (xc (wH) (by rfl) T.aZ zh (xK (xL (pv 2) (xL (cN (v:=V.ty "list") rfl T.nK PyProof.Rows.boot_list rfl) xU rfl) rfl))))) (cC (xi ic (xc (xX rfl) (by rfl) T.bA PySem.boot_len (xK (xL (pv 2) xU rfl))) (xc (xX rfl) (by rfl) T.bA PySem.boot_len (xK (xL (xY (xj rfl) (pv 0) xO (λ_ _=>rfl)) xU rfl))) (aB _))))) (xM (xk (xZ eY))) xh) B5.bl))⟩
  refine ⟨_,(xM (xf (wc (pv 1) (xv (n:=4) rfl rfl (xS (xV (i:=3) nd rfl rfl) (xS (xV (i:=4) nd rfl rfl) (xS (xV (i:=5) nd rfl rfl) (xS (xV (i:=6) nd rfl rfl) xu)))))) B6.bl)),?_⟩;have line:=bI;obtain ⟨cY,QO,U9,_⟩:=id hL;unfold sW at hB;rw [zX,zX] at hB;obtain ⟨u1,u2,cl⟩:=hB;have Wo:bJ (f w0) z0=false:=by
   cases e:bJ (f w0) z0 with
   | false=>rfl
   | true=>rw [e] at u2;cases u2
  obtain ⟨y1,Zt,ly1⟩:=aK.mp u1;refine (zr rfl (KU cY ?_));refine (zr rfl ⟨_, "list", "list", rfl,rT h1,.inr (.inr (.inl rfl)),zr rfl (aD rfl (zr rfl ⟨l,zr rfl ⟨.inl (aJ.of h1),zr rfl (cH hb.book rfl ⟨tr,zr rfl ⟨.inr (bC.of hb.af),rfl,zr rfl (JU ?_ ?_)⟩⟩)⟩⟩))⟩)
  ·rw [zA,wn,zA]
  refine (zr rfl ⟨l,rfl,⟨_,aJ.of h1⟩,?_⟩);refine (let W18:IC:=λi τ acc H5=>(∃ t0,τ=[t0])/\acc=List.map V.bl (List.replicate i true)/\H5=H;dR (K:=K) (a:=l) (xs:=(rep af.length f).map oV) W18 ⟨⟨_,rfl⟩,rfl,rfl⟩ (by rw [zA,wn];omega) ?_ ?_ ?_)
  ·rintro i τ acc H5 ⟨_,rfl,rfl⟩;exact ⟨by rw [zA,List.length_replicate];exact zB _,aJ.of h1⟩
  ·rintro i x τ acc H5 C hx ⟨⟨t0,rfl⟩,rfl,rfl⟩ hC;obtain ⟨r,hr,rfl⟩:=wP hx;have sn:List.map V.bl (List.replicate i true)++[V.bl true]=List.map V.bl (List.replicate (i + 1) true):=by rw [List.replicate_succ',zF];rfl
   cases r with
   | none=>exact (zr rfl (zr rfl (aM rfl (hC _ _ _ ⟨⟨_,rfl⟩,sn,rfl⟩))))
   | some z=>exact (zr rfl (zr rfl (aD rfl (zr rfl ⟨.int z, "int", rfl,rfl,hC _ _ _ ⟨⟨_,rfl⟩,sn,rfl⟩⟩))))
  rintro τ acc H5 ⟨_,rfl,e5⟩ lc qW;have e5':=e5.symm;subst e5';have s2:=xP (o:=HO.lst (List.map V.bl (List.replicate ((rep af.length f).map oV).length true))) qW;have k2:upd H lc (HO.lst (List.map V.bl (List.replicate ((rep af.length f).map oV).length true))) lc=some (.lst (List.map V.bl (List.replicate ((rep af.length f).map oV).length true))):=xN;generalize upd H lc _=H2 at s2 k2 ⊢;have pD:=hb.same s2;have XI:=s2 _ _ h1;refine ⟨lc,zr rfl ⟨aJ.of k2,zr rfl (aD (by simp) ?_)⟩⟩;have X0:dS ((rep af.length f).map oV) (s0:Int)=some (V.int y1):=by rw [xo (wO QO),Zt];rfl
  refine (zr rfl (zr rfl (bR XI X0 (zr rfl (aD rfl (zr rfl (zr rfl (bR XI X0 (zr rfl (aG rfl rfl (zr rfl (dP (λc=>absurd c (by omega)) (λc=>?_)))))))))))));refine (zr rfl (cH pD.book rfl ⟨tm,rfl,⟨_,bC.of pD.meets⟩,?_⟩));refine (let W19:IV:=λi σ H4=>(∃ v4 v5 v6 v7 v8 v9,σ=[some (.ref b),some (.ref lt),some (.ref l),some (.int (s0:Int)),some (.int a0),some (.int (w0:Int)),some (.int z0),v4,v5,v6,v7,v8,v9])/\aA H H4;sF (K:=K) (a:=tm) (xs:=ps.map λa=>V.ref a.1) W19)
   ⟨⟨_,_,_,_,_,_,rfl⟩,s2⟩ (λi σ H4 _ h4=>bC.of ((hb.same h4.2).meets)) ?_ ?_
  ·rintro i y σ H4 hy ⟨⟨v4,v5,v6,v7,v8,v9,rfl⟩,nR⟩;obtain ⟨r,uF,rfl⟩:=wP hy;have rm:=zD uF;obtain ⟨a1,a2,a3,a4,a5,_⟩:=gd.at rm;have f6:=(hb.same nR).rows r rm;have z1:(r.2.lo.toNat:Int)=r.2.lo:=yN a1;have z2:(r.2.hi.toNat:Int)=r.2.hi:=yN (by omega);have gl:r.2.lo.toNat < af.length:=by omega
   have ol:r.2.hi.toNat < af.length:=by omega
   have ck:∀ x∈two r.2,(!(below (f x.g) x.t) || bJ (f x.o) x.t)=true:=λx hx=>xB.mp cl x (by
    unfold aQ;exact yl.mpr ⟨r.2,zS.mpr ⟨r,rm,rfl⟩,hx⟩)
   refine (KU f6 ?_);refine (zr rfl (zr rfl ⟨by show 2<=sizeLine;omega,λt1 ng=>(zr rfl (zr rfl ⟨by show 2<=sizeLine;omega,λt2 nW=>⟨by show 2<=sizeLine;omega,λll qV=>⟨ll,rfl,⟨_,aJ.of xN⟩,?_⟩⟩⟩))⟩));have Pe:=((xP (o:=HO.tup [.int r.2.lo,.int r.2.hi]) ng).trans (xP (o:=HO.tup [.int r.2.hi,.int r.2.lo]) nW)).trans (xP (o:=HO.lst [.ref t1,.ref t2]) qV);have h5:=(nR.trans Pe) _ _ h1;have q1:=(xP (o:=HO.lst [.ref t1,.ref t2]) qV) t1 _ ((xP (o:=HO.tup [.int r.2.hi,.int r.2.lo]) nW) t1 _ (xN (H:=H4) (a:=t1) (o:=HO.tup [.int r.2.lo,.int r.2.hi])));have q2:=(xP (o:=HO.lst [.ref t1,.ref t2]) qV) t2 _ (xN (a:=t2) (o:=HO.tup [.int r.2.hi,.int r.2.lo]));generalize eH:upd (upd (upd H4 t1 (HO.tup [.int r.2.lo,.int r.2.hi])) t2 (HO.tup [.int r.2.hi,.int r.2.lo])) ll (HO.lst [.ref t1,.ref t2])=H5 at Pe h5 q1 q2;have Vq:H5 ll=some (.lst [.ref t1,.ref t2]):=by rw [<-eH];exact xN
   refine (let W20:IV:=λj σ H6=>(∃ v8 v9,σ=[some (.ref b),some (.ref lt),some (.ref l),some (.int (s0:Int)),some (.int a0),some (.int (w0:Int)),some (.int z0),some (.int r.2.lo),some (.int r.2.hi),some (.int r.2.t),some (.int r.2.m),v8,v9])/\H6=H5;fL (K:=K) (a:=ll) (xs:=[V.ref t1,V.ref t2]) W20)
    ?_ (λj σ H6 _ h6=>by rw [h6.2];exact aJ.of Vq) ?_ ?_
   ·exact ⟨⟨_,_,rfl⟩,rfl⟩
   ·rintro j y σ H6 hy ⟨⟨v8,v9,rfl⟩,rfl⟩;obtain rfl | rfl:j=0\/j=1:=by
     have:j < 2:=(zC.mp hy).1;omega
    ·cases hy;have hg:dS ((rep af.length f).map oV) r.2.lo=some (oV (f r.2.lo.toNat)):=by rw [<-z1];exact xo (wO gl)
     have ho:dS ((rep af.length f).map oV) r.2.hi=some (oV (f r.2.hi.toNat)):=by rw [<-z2];exact xo (wO ol)
     have cc:=ck ⟨r.2.lo.toNat,r.2.hi.toNat,r.2.t⟩ (by unfold two;simp);refine (rS q1 ?_);refine (zr rfl (zr rfl (bR h5 hg (zr rfl ?_))));cases qX:f r.2.lo.toNat with
     | none=>exact aD rfl (aD rfl ⟨⟨_,_,rfl⟩,rfl⟩)
     | some a=>
      rw [qX] at hg;refine aM rfl (zr rfl (zr rfl (bR h5 hg (zr rfl (aG rfl rfl (zr rfl (dP (λc=>?_) (λc=>⟨⟨_,_,rfl⟩,rfl⟩))))))));have bl:below (f r.2.lo.toNat) r.2.t=true:=aH.mpr ⟨a,qX,c⟩;have up:bJ (f r.2.hi.toNat) r.2.t=true:=by
       have Rp:(!(below (f r.2.lo.toNat) r.2.t) || bJ (f r.2.hi.toNat) r.2.t)=true:=cc;rw [bl] at Rp;simpa using Rp
      obtain ⟨y3,U4,Y5⟩:=aK.mp up;rw [U4] at ho;exact (zr rfl (zr rfl (bR h5 ho (zr rfl (aD rfl (zr rfl (zr rfl (bR h5 ho (zr rfl (aG rfl rfl (zr rfl (dP (λc2=>absurd c2 (by omega)) (λc2=>⟨⟨_,_,rfl⟩,rfl⟩)))))))))))))
    ·cases hy;have hg:dS ((rep af.length f).map oV) r.2.hi=some (oV (f r.2.hi.toNat)):=by rw [<-z2];exact xo (wO ol)
     have ho:dS ((rep af.length f).map oV) r.2.lo=some (oV (f r.2.lo.toNat)):=by rw [<-z1];exact xo (wO gl)
     have cc:=ck ⟨r.2.hi.toNat,r.2.lo.toNat,r.2.t⟩ (by unfold two;simp);refine (rS q2 ?_);refine (zr rfl (zr rfl (bR h5 hg (zr rfl ?_))));cases qX:f r.2.hi.toNat with
     | none=>exact aD rfl (aD rfl ⟨⟨_,_,rfl⟩,rfl⟩)
     | some a=>
      rw [qX] at hg;refine aM rfl (zr rfl (zr rfl (bR h5 hg (zr rfl (aG rfl rfl (zr rfl (dP (λc=>?_) (λc=>⟨⟨_,_,rfl⟩,rfl⟩))))))));have bl:below (f r.2.hi.toNat) r.2.t=true:=aH.mpr ⟨a,qX,c⟩;have up:bJ (f r.2.lo.toNat) r.2.t=true:=by
       have Rp:(!(below (f r.2.hi.toNat) r.2.t) || bJ (f r.2.lo.toNat) r.2.t)=true:=cc;rw [bl] at Rp;simpa using Rp
      obtain ⟨y3,U4,Y5⟩:=aK.mp up;rw [U4] at ho;exact (zr rfl (zr rfl (bR h5 ho (zr rfl (aD rfl (zr rfl (zr rfl (bR h5 ho (zr rfl (aG rfl rfl (zr rfl (dP (λc2=>absurd c2 (by omega)) (λc2=>⟨⟨_,_,rfl⟩,rfl⟩)))))))))))))
   ·rintro σ H6 ⟨⟨v8,v9,rfl⟩,rfl⟩;exact ⟨⟨_,_,_,_,_,_,rfl⟩,nR.trans Pe⟩
  ·rintro σ H4 ⟨⟨v4,v5,v6,v7,v8,v9,rfl⟩,nR⟩;have h4:=nR _ _ h1;have Rr:dS ((rep af.length f).map oV) (w0:Int)=some (oV (f w0)):=xo (wO U9);cases ew:f w0 with
   | none=>
    rw [ew] at Rr;exact (zr rfl (zr rfl (bR h4 Rr (zr rfl (aM rfl (q _ nR))))))
   | some y2=>
    rw [ew] at Rr Wo;have ny:¬ y2<=z0:=of_decide_eq_false Wo;have:=q _ nR;rw [<-decide_eq_true (show z0 < y2 by omega)] at this;exact (zr rfl (zr rfl (bR h4 Rr (zr rfl (aD rfl (zr rfl (zr rfl (bR h4 Rr (zr rfl (aG rfl rfl this))))))))))
theorem DY:ay ["_law_book_here_here", "_law_sender_here", "_law_since_here", "_law_wishes_here_here", "_law_times_here_here", "_law_k_here", "_law_walker_here", "_law_last_here"] ["_law_book_here_here", "_law_sender_here", "_law_since_here", "_law_wishes_here_here"] (aq wy):=L2.bw
theorem FU (T:Tx K mg a ak ai ah)(B:aW mg base):aT P w K mg base cB 2 a.AI a.BA ["_law_book_here_here", "_law_sender_here", "_law_since_here", "_law_wishes_here_here"] (tV):=by
 have GY:=FP P w base T B;refine T.A9.ok DY (λvs H Q E h=>?_) (λbK A outer s H vs Q E hr h=>?_)
 ·obtain ⟨_,_,_,_,_,_,_,_,_,rfl,_⟩:=h;rfl
 ·have nd:=DY.nd;have hu:=hr.units;obtain ⟨b,k,a0,lw,af,tr,tm,ps,ws,rfl,hb,gd,ud,hk,wa,w4,q1,q2⟩:=h;refine bU ?_;intro Y
  let B0:Bk Y (nb (aj wy) 1):=⟨_,(xM (xk (xr (@PW.pt _ _ _ (cU (bZ (cE (xY (xW rfl) (pv 4) (pv 6) (λ_ _=>rfl)))) (cC (xi gf (xY (xW rfl) (pv 4) (pv 6) (λ_ _=>rfl)) (pv 7) (aB _))))) (xM (xk (xZ (pv 5)))) xh)))⟩
  let B1:Bk Y ((aj wy).drop 1):=⟨_,(xM (xf (wQ PassesOwn.never rfl (jW rfl rfl T.dw (xK (xL (pv 3) xU rfl))) (xv (n:=2) rfl rfl (xS (xV (i:=5) nd rfl rfl) (xS (xv (n:=2) rfl rfl (xS (xV (i:=6) nd rfl rfl) (xS (xV (i:=7) nd rfl rfl) xu))) xu))) B0.ps) (xk (xZ cV))))⟩
  refine ⟨_,(xM (xf (xb (i:=4) nd rfl rfl (xT GY (hr.mono (by decide)) rfl T.Gw T.GC T.GI .nil av (xK (xL (pv 0) (xL (pv 1) (xL (pv 2) xU rfl) rfl) rfl)))) B1.bl)),?_⟩;have line:=bI;refine (zr rfl (zr rfl (zr rfl (vc b k a0 af tr tm ps ⟨rfl,hk,hb,by omega,gd,λl1 H1 _ s1 k1=>?_⟩))));have Pb:=wa.same s1;refine (zr rfl ⟨lw,rfl,⟨_,aJ.of Pb.1⟩,?_⟩);refine (let W21:IV:=λi σ H5=>(∃ v5 v6 v7,σ=[some (.ref b),some (.int (k:Int)),some (.int a0),some (.ref lw),some (.ref l1),v5,v6,v7])/\aA H1 H5/\∀ j,j < i->∀ x,(wq ws)[j]?=some x->bJ (fwd (ps.map (·.2)) (aC k a0) x.1) x.2=true;iZ (K:=K) (a:=lw) (xs:=ws.map λa=>V.ref a.1) W21 ⟨⟨_,_,_,rfl⟩,aA.refl _,(λj z=>absurd z (zv _))⟩ ?_ ?_ ?_)
  ·rintro i σ H5 _ ⟨_,s5,_⟩;exact aJ.of (s5 _ _ Pb.1)
  ·rintro i v q0 σ H5 hv hq ⟨⟨v5,v6,v7,rfl⟩,s5,old⟩;obtain ⟨x,hx,rfl⟩:=wP hv;have Po:(wq ws)[i]?=some x.2:=by unfold wq;rw [zG,hx];rfl
   have s6:=s5.trans (xP (o:=HO.tup [V.int (i:Int),V.ref x.1]) hq);have kq:upd H5 q0 (HO.tup [V.int (i:Int),V.ref x.1]) q0=some (.tup [V.int (i:Int),V.ref x.1]):=xN;generalize upd H5 q0 (HO.tup [V.int (i:Int),V.ref x.1])=H6 at s6 kq ⊢;obtain ⟨kx,lx⟩:=(Pb.same s6).2 x (zD hx);have k6:=s6 _ _ k1;refine ⟨q0,zr rfl ⟨bC.of kq,rfl,mO rfl (mO rfl (rS kx ⟨rfl,?_⟩))⟩⟩;refine (zr rfl (zr rfl (bR k6 (xo (wO lx)) (zr rfl ?_))));cases e:fwd (ps.map (·.2)) (aC k a0) x.2.1 with
   | none=>exact aM rfl (aM rfl (zr rfl (q1 i ⟨⟨x.2,Po,by rw [e];rfl⟩,old⟩ _ (s1.trans s6))))
   | some y=>
    refine aD rfl (zr rfl (zr rfl (bR k6 (by rw [xo (wO lx),e];rfl) (zr rfl (aG rfl rfl (zr rfl ?_))))));by_cases c:x.2.2 < y
    ·exact aM (decide_eq_true c) (zr rfl (q1 i ⟨⟨x.2,Po,by rw [e];exact decide_eq_false (by omega)⟩,old⟩ _ (s1.trans s6)))
    ·refine aD (decide_eq_false c) ⟨⟨_,_,_,rfl⟩,s6,λj hj z hz=>?_⟩;by_cases ej:j=i
     ·subst ej;rw [Po] at hz;cases hz;rw [e];exact decide_eq_true (by omega)
     ·exact old j (by omega) z hz
  ·rintro σ H5 ⟨⟨v5,v6,v7,rfl⟩,s5,all⟩;exact q2 (λj x hx=>all j (by rw [zA,<- dB];exact (zC.mp hx).1) x hx) _ (s1.trans s5)
theorem Ek:ay ["_law_book_here", "_law_sender", "_law_since", "_law_wishes_here", "_law_told", "_law_never_here", "_law_wish", "_law_letter", "_law_times_here"] ["_law_book_here", "_law_sender", "_law_since", "_law_wishes_here"] (aq wJ):=L2.bw
theorem Es (T:Tx K mg a ak ai ah)(B:aW mg base):aT P w K mg base cB 7 a.AV a.BQ ["_law_book_here", "_law_sender", "_law_since", "_law_wishes_here"] (vL a.tP bM):=by
 have Jb:=Ix P w base T B;have EB:=D5 P w base T B;have F7:=Ft P w base T B;have HG:=Gu P w base T B;have G2:=FU P w base T B;refine T.Bq.ok Ek (λvs H Q E h=>?_) (λbK A outer s H vs Q E hr h=>?_)
 ·obtain ⟨_,_,_,_,_,_,_,_,_,rfl,_⟩:=h;rfl
 ·have nd:=Ek.nd;have hu:=hr.units;obtain ⟨b,k,a0,lw,af,tr,tm,ps,ws,rfl,co,wa,lo,w1,w4,q⟩:=h;refine bU ?_;intro Y
  let B0:Bk Y ((aj wJ).drop 5):=⟨_,(xM (xf (xr (@PW.pt _ _ _ (cU (xi ic (xY (xj rfl) (pv 4) xO (λ_ _=>rfl)) mU (aB _)) (cC (wo (wb (xT F7 (hr.mono (by decide)) rfl T.FW T.FY T.F3 .nil av (xK (xL (pv 8) (xL (pv 3) xU rfl) rfl)))))))) (xM (xk (xZ (cJ wd xO)))) xh) (xk (xZ (xc (xX rfl) (by rfl) T.bA PySem.boot_len (xK (xL (xY (xj rfl) (pv 4) xO (λ_ _=>rfl)) xU rfl)))))))⟩
  let B1:Bk Y ((aj wJ).drop 4):=⟨_,(xM (xf (xb (i:=8) nd rfl rfl (xT EB (hr.mono (by decide)) rfl T.Eu T.Ew T.Ey .nil av (xK (xL (pv 0) (xL (pv 1) (xL (pv 2) (xL (xY (xj rfl) (pv 4) xO (λ_ _=>rfl)) xU rfl) rfl) rfl) rfl)))) B0.bl))⟩
  let B2:Bk Y ((nb (aj wJ) 3).drop 2):=⟨_,(xM (xf (xr (@PW.pt _ _ _ (gE (xi (NK hu) (dM (rX rfl) (pv 4) fT (d9 xO)) (xz (xK (xL mU (xL (pv 5) xU rfl) rfl))) (aB _)) (fR (wb (xT HG (hr.mono (by decide)) rfl T.He T.Hk T.Hr .nil av (xK (xL (pv 0) (xL (pv 7) (xL (xY (xj rfl) (pv 4) xO (λ_ _=>rfl)) xU rfl) rfl) rfl))))))) (xM (xk (xZ (cJ wd xO)))) xh) (xk (xZ (cJ wd xO)))))⟩
  let B3:Bk Y ((nb (aj wJ) 3).drop 1):=⟨_,(xM (xf (xb (i:=7) nd rfl rfl (xz (xK (xL (pv 1) (xL (pv 2) (xL (xY (xj rfl) (pv 6) xO (λ_ _=>rfl)) (xL (xY (xj rfl) (pv 6) xO (λ_ _=>rfl)) xU rfl) rfl) rfl) rfl)))) B2.bl))⟩
  let B4:Bk Y ((aj wJ).drop 2):=⟨_,(xM (xf (xb (i:=5) nd rfl rfl (xT G2 (hr.mono (by decide)) rfl T.GA T.GG T.GM .nil av (xK (xL (pv 0) (xL (pv 1) (xL (pv 2) (xL (pv 3) xU rfl) rfl) rfl) rfl)))) (xf (xr (bZ (fU (pv 5))) (xM (xf (xb (i:=6) nd rfl rfl (xY (xW rfl) (pv 3) (pv 5) (λ_ _=>rfl))) B3.bl)) xh) B1.bl)))⟩
  let B5:Bk Y ((aj wJ).drop 1):=⟨_,(xM (xf (xr (@PW.pt _ _ _ (cU (wo (wb (xc (wH) (by rfl) T.aZ zh (xK (xL (pv 4) (xL (cN (v:=V.ty "tuple") rfl T.iB yV rfl) xU rfl) rfl))))) (cC (xi ic (xc (xX rfl) (by rfl) T.bA PySem.boot_len (xK (xL (pv 4) xU rfl))) xO (aB _))))) (xM (xk (xZ (cJ wd xO)))) xh) B4.bl))⟩
  refine ⟨_,(xM (xf (xb (i:=4) nd rfl rfl (xT Jb (hr.mono (by decide)) rfl T.IO T.IR T.IT .nil av (xK (xL (pv 0) (xL (pv 1) (xL (pv 2) (xL (iU (lG rfl) (by rfl) T.nK PyProof.Rows.boot_list (xK (xL (pv 3) xU rfl))) xU rfl) rfl) rfl) rfl)))) B5.bl)),?_⟩;have line:=bI;have r8:=co.r8;have gd:=co.gd;have eK:=dB ws;have LW:=wa.bound;have mt:=co.mt;refine (zr rfl (zr rfl (zr rfl (zr rfl ⟨lw,zr rfl ⟨.inl (aJ.of wa.1),λR1 hl=>?_⟩⟩))));have s1:=xP (o:=HO.lst (ws.map λa=>V.ref a.1)) hl;have Pb:bS (upd H R1 (HO.lst (ws.map λa=>V.ref a.1))) R1 af.length ws:=⟨xN,λx hx=>(wa.same s1).2 x hx⟩;generalize upd H R1 (HO.lst (ws.map λa=>V.ref a.1))=H1 at s1 Pb ⊢;have MO:=co.same s1;refine (Mj b k a0 R1 af tr tm ps ws ⟨rfl,⟨MO.bk,gd,co.r1,by omega,Pb,w4⟩,r8,co.Jw,w1,co.hk,co.a0,co.a9,lo,MO.mt,λt H2 b2 NS told=>?_⟩);have PB:=MO.but b2 NS;have M3:=(wa.same s1).iA MO.mt b2;have XZ:=(aA.kH s1).trans b2;rcases told with ⟨i,l1,kt,nv,k1⟩ | ⟨l1,lp,Tl,h,P,kt,sv,tt,pr,dp,len⟩
  ·refine (zr rfl ⟨_, "tuple", "tuple", rfl,jz kt,.inr (.inr (.inr rfl)),zr rfl (aD rfl (zr rfl ⟨t,zr rfl ⟨.inr (bC.of kt),rfl,zr rfl (aD rfl ?_)⟩⟩))⟩);refine (zr rfl (zr rfl (zr rfl (zr rfl (Mj b k a0 lw af tr tm ps ws ⟨rfl,PB.bk,gd,by omega,co.hk,M3,w4,λi' UD H3 s3=>?_,λUj=>absurd Uj (iV nv)⟩)))));obtain rfl:=qN nv UD;have Ro:=PB.same s3;have Wk:=M3.same s3;obtain ⟨⟨y,hy,ey⟩,_⟩:=id nv;obtain ⟨x,hx,rfl⟩:∃ x,ws[i]?=some x/\x.2=y:=by
    unfold wq at hy;rw [zG] at hy;cases e:ws[i]? with
    | none=>rw [e] at hy;cases hy
    | some x=>rw [e] at hy;exact ⟨x,rfl,Option.some.inj hy⟩
   have mx:=zD hx;obtain ⟨kx,lx⟩:=Wk.2 x mx;refine (zr rfl (zr rfl (aM rfl ?_)));refine (zr rfl (zr rfl (bR Wk.1 (xo (by rw [zG,hx];rfl)) ?_)));refine (zr rfl (zr rfl (zr rfl (cH kx rfl (zr rfl (cH kx rfl ⟨by show 4<=sizeLine;omega,λlt cY=>?_⟩))))));have s4:=xP (o:=HO.tup [V.int (k:Int),V.int a0,V.int (x.2.1:Int),V.int x.2.2]) cY;have k4:upd H3 lt (HO.tup [V.int (k:Int),V.int a0,V.int (x.2.1:Int),V.int x.2.2]) lt=some (.tup [V.int (k:Int),V.int a0,V.int (x.2.1:Int),V.int x.2.2]):=xN;generalize upd H3 lt (HO.tup [V.int (k:Int),V.int a0,V.int (x.2.1:Int),V.int x.2.2])=H4 at s4 k4 ⊢;have QB:=s4 _ _ (s3 _ _ kt);refine (zr rfl (zr rfl ⟨t,zr rfl ⟨bC.of QB,(by show ¬ (HT.bW 3 0 none=0/\HT.bW 3 3 (some 2)=3);decide),λp1 Pr=>?_⟩⟩));rw [show jx [V.str (Str.ofString "never"),V.int (i:Int),V.ref l1] none (some 2)=[V.str (Str.ofString "never"),V.int (i:Int)] from rfl];have s5:=xP (o:=HO.tup [V.str (Str.ofString "never"),V.int (i:Int)]) Pr;have k5:upd H4 p1 (HO.tup [V.str (Str.ofString "never"),V.int (i:Int)]) p1=some (.tup [V.str (Str.ofString "never"),V.int (i:Int)]):=xN;generalize upd H4 p1 (HO.tup [V.str (Str.ofString "never"),V.int (i:Int)])=H5 at s5 k5 ⊢;refine (zr rfl ⟨by show 2<=sizeLine;omega,λp2 Od=>?_⟩);have s6:=xP (o:=HO.tup [V.str (Str.ofString "never"),V.int (i:Int)]) Od;have k6:upd H5 p2 (HO.tup [V.str (Str.ofString "never"),V.int (i:Int)]) p2=some (.tup [V.str (Str.ofString "never"),V.int (i:Int)]):=xN;generalize upd H5 p2 (HO.tup [V.str (Str.ofString "never"),V.int (i:Int)])=H6 at s6 k6 ⊢;have Qd:=(s4.trans s5).trans s6;have co6:=Ro.same Qd;refine ⟨0,p1,p2,_,_,(λ_=>true),true,by decide,rfl,rfl,.inr ⟨bC.of (s6 _ _ k5),bC.of k6⟩,rfl,uL rfl rfl,zr rfl (aM rfl ?_)⟩;refine (zr rfl (zr rfl (zr rfl (cH (s6 _ _ (s5 _ _ QB)) rfl (VX b lt l1 (fwd (ps.map (·.2)) (aC k a0)) k x.2.1 a0 x.2.2 af tr tm ps ⟨rfl,co6.bk,by omega,gd,⟨s6 _ _ (s5 _ _ k4),co.hk,lx,co.a0,co.a9,lo x mx⟩,Qd _ _ (s3 _ _ k1),rH gd ey,λH7 s7=>(zr rfl (aM rfl (zr rfl (q (-1) H7 (XZ.fB ((s3.trans Qd).trans s7)) (NS.bP ((s3.trans Qd).trans s7)) (.inl ⟨iV nv,rfl⟩)))))⟩)))))
  ·refine (zr rfl ⟨_, "tuple", "tuple", rfl,jz kt,.inr (.inr (.inr rfl)),zr rfl (aD rfl (zr rfl ⟨t,zr rfl ⟨.inr (bC.of kt),rfl,zr rfl (aD rfl ?_)⟩⟩))⟩);refine (zr rfl (zr rfl (zr rfl (zr rfl (Mj b k a0 lw af tr tm ps ws ⟨rfl,PB.bk,gd,by omega,co.hk,M3,w4,λi' UD=>absurd sv (iV UD),λ_ H3 s3=>?_⟩)))));have Ro:=PB.same s3;have WW:=s3 _ _ kt;refine (zr rfl (zr rfl (aD rfl ?_)));refine (zr rfl (zr rfl (zr rfl (zr rfl (cH WW rfl ⟨b,k,a0,l1,af,tr,tm,ps,Tl,h,rfl,Ro.bk,gd,by omega,co.hk,s3 _ _ tt.top,(λx hx=>s3 _ _ (tt.row x hx)),tt.tr.RO,λl2 H4 s4 k4=>?_⟩)))));have QB:=s4 _ _ WW;refine (zr rfl (cH QB rfl ⟨rfl,zr rfl (aD rfl (zr rfl (zr rfl ⟨l2,lw,af.length,h,ws,rfl,k4,(M3.same s3).same s4,w4,tt.sv,λH5 s5=>(zr rfl (aD rfl ?_))⟩)))⟩));have Mw:=(s3.trans s4).trans s5;refine (zr rfl (cH (s5 _ _ QB) rfl ⟨l1,zr rfl ⟨.inl (aJ.of (Mw _ _ tt.top)),?_⟩⟩));refine q _ H5 (XZ.fB Mw) (NS.bP Mw) ?_;have:=tM gd co.hk LW dp sv tt.tr tt.sv (by rw [zA,eK];exact len);rw [zA] at this ⊢;exact this
theorem Dp:ay ["_law_one", "_law_other"] ["_law_one", "_law_other"] (aq CD):=L2.bw
theorem Fd (T:Tx K mg a ak ai ah)(B:aW mg base):aT P w K mg base cB 1 a.An a.AN ["_law_one", "_law_other"] (qu):=by
 refine T.Aw.ok Dp (λvs H Q E h=>?_) (λbK A outer s H vs Q E hr h=>?_)
 ·obtain ⟨_,_,rfl,_⟩:=h;rfl
 ·have nd:=Dp.nd;have hu:=hr.units;obtain ⟨x,y,rfl,x2,xy,q⟩:=h;refine ⟨_,(xM (xk (xZ (cD (cM ic (pv 0) (cJ wd xO) (aB _)) (cg (Jt (cM bX (pv 1) (cJ wd xO) (aB _)) (cg (jY gc gc xO (pv 0) (pv 1))))))))),?_⟩;have line:=bI;refine (zr rfl (zr rfl ⟨rfl,zr rfl ?_⟩));refine aM (by rw [decide_eq_false (λz=>x2 (V.int.inj z))];rfl) (zr rfl (zr rfl ⟨rfl,zr rfl ?_⟩));rcases xy with rfl | ⟨l1,l2⟩
  ·exact aM rfl q
  ·refine aD (decide_eq_false (λz=>by have:=V.int.inj z;omega)) (zr rfl (aG rfl rfl (zr rfl (aM (decide_eq_true l1) (zr rfl (aG rfl rfl ?_))))));show Q (.bl (decide (x<=y))) H;rw [decide_eq_true l2];exact q
theorem DX:ay ["_law_book_here", "_law_sender", "_law_since", "_law_wishes_here", "_law_place", "_law_all", "_law_ahead", "_law_behind"] ["_law_book_here", "_law_sender", "_law_since", "_law_wishes_here", "_law_place", "_law_all"] (aq wZ):=L2.bw
theorem FT (T:Tx K mg a ak ai ah)(B:aW mg base):aT P w K mg base cB 8 a.AH a.Bz ["_law_book_here", "_law_sender", "_law_since", "_law_wishes_here", "_law_place", "_law_all"] (tS a.tP bM):=by
 have Bi:=Es P w base T B;refine T.A8.ok DX (λvs H Q E h=>?_) (λbK A outer s H vs Q E hr h=>?_)
 ·obtain ⟨_,_,_,_,_,_,_,_,_,_,_,rfl,_⟩:=h;rfl
 ·have nd:=DX.nd;have hu:=hr.units;obtain ⟨b,k,a0,lw,pp,z,af,tr,tm,ps,ws,rfl,co,wa,lo,p1,pw,w4,mz,q⟩:=h;refine bU ?_;intro Y
  let B0:Bk Y (nb (aj wZ) 3):=⟨_,(xM (xk (xZ (cD (cM bX (pv 5) (cJ wd xO) (aB _)) (cg (cM (cu rfl) (cJ wd xO) (xz (xK (xL (pv 6) (xL (pv 7) xU rfl) rfl))) rfl))))))⟩
  let B1:Bk Y ((aj wZ).drop 3):=⟨_,(xM (xf (xr (@PW.pt _ _ _ (cU (xi (cu rfl) (cJ wd xO) (xz (xK (xL (pv 6) (xL (pv 7) xU rfl) rfl))) rfl) (cC (xi bX (pv 5) (cJ wd xO) (aB _))))) B0.ps xh) (xk (xZ (jY gc gc (xc (fW rfl) (by rfl) T.sX PyProof.Rows.boot_max (xK (xL (pv 6) (xL (pv 7) xU rfl) rfl))) (pv 5) (xg xt (pv 6) (pv 7)))))))⟩
  let B2:Bk Y ((aj wZ).drop 1):=⟨_,(xM (xf (xb (i:=7) nd rfl rfl (xT Bi (hr.mono (by decide)) rfl T.BH T.BI T.BJ .nil av (xK (xL (pv 0) (xL (pv 1) (xL (pv 2) (xL (dM (gX rfl) (pv 3) (d9 (pv 4)) fT) xU rfl) rfl) rfl) rfl)))) (xf (xr (xi (cu rfl) (cJ wd xO) (xz (xK (xL (pv 6) (xL (pv 7) xU rfl) rfl))) rfl) (xM (xk (xZ eY))) xh) B1.bl)))⟩
  refine ⟨_,(xM (xf (xb (i:=6) nd rfl rfl (xT Bi (hr.mono (by decide)) rfl T.BH T.BI T.BJ .nil av (xK (xL (pv 0) (xL (pv 1) (xL (pv 2) (xL (dM (gX rfl) (pv 3) fT (d9 (pv 4))) xU rfl) rfl) rfl) rfl)))) B2.bl)),?_⟩;have line:=bI;have gd:=co.gd;have mt:=co.mt;refine (zr rfl (zr rfl (zr rfl (zr rfl (zr rfl (zr rfl ⟨lw,zr rfl ⟨aJ.of wa.1,λl1 Vu=>?_⟩⟩))))));rw [pL,<- List.map_take];have s1:=xP (o:=HO.lst ((ws.take pp).map λa=>V.ref a.1)) Vu;have k1:upd H l1 (HO.lst ((ws.take pp).map λa=>V.ref a.1)) l1=some (.lst ((ws.take pp).map λa=>V.ref a.1)):=xN;generalize upd H l1 (HO.lst ((ws.take pp).map λa=>V.ref a.1))=H1 at s1 k1 ⊢;have MO:=co.same s1;refine (Mj b k a0 l1 af tr tm ps (ws.take pp) ⟨rfl,MO,(wa.same s1).vG (λx hx=>List.mem_of_mem_take hx) k1,(λx hx=>lo x (List.mem_of_mem_take hx)),by rw [zk];omega,by rw [zk];omega,λx H2 b2 NS m1=>?_⟩);have PB:=MO.but b2 NS;have M3:=(wa.same s1).iA MO.mt b2;refine (zr rfl (zr rfl (zr rfl (zr rfl (zr rfl (zr rfl ⟨lw,zr rfl ⟨aJ.of M3.1,λl2 J1=>?_⟩⟩))))));rw [pM,<- List.map_drop];have s3:=xP (o:=HO.lst ((ws.drop pp).map λa=>V.ref a.1)) J1;have k3:upd H2 l2 (HO.lst ((ws.drop pp).map λa=>V.ref a.1)) l2=some (.lst ((ws.drop pp).map λa=>V.ref a.1)):=xN;generalize upd H2 l2 (HO.lst ((ws.drop pp).map λa=>V.ref a.1))=H3 at s3 k3 ⊢;have Ro:=PB.same s3;refine (Mj b k a0 l2 af tr tm ps (ws.drop pp) ⟨rfl,Ro,(M3.same s3).vG (λx hx=>List.mem_of_mem_drop hx) k3,(λx hx=>lo x (List.mem_of_mem_drop hx)),by rw [zz];omega,by rw [zz];omega,λy H4 b4 WO m2=>?_⟩);have XY:=(((aA.kH s1).trans b2).fB s3).trans b4;obtain ⟨g1,g2,f1,f2⟩:=LC gd (vm ws pp) m1 m2 mz;have i2:uE (V.int (-2)) [V.int x,V.int y]=false:=by
   rw [fH,decide_eq_false (by omega),decide_eq_false (by omega)];rfl
  refine (zr rfl (zr rfl (zr rfl ⟨by show 2<=sizeLine;omega,λt1 ng=>⟨t1,zr rfl ⟨.inr (bC.of xN),rfl,rfl,zr rfl (aD i2 ?_)⟩⟩⟩)));have s5:=xP (o:=HO.tup [V.int x,V.int y]) ng;generalize upd H4 t1 (HO.tup [V.int x,V.int y])=H5 at s5 ⊢;refine (zr rfl (zr rfl (zr rfl ⟨by show 2<=sizeLine;omega,λt2 nW=>⟨t2,zr rfl ⟨.inr (bC.of xN),rfl,rfl,zr rfl ?_⟩⟩⟩)));have s6:=s5.trans (xP (o:=HO.tup [V.int x,V.int y]) nW);generalize upd H5 t2 (HO.tup [V.int x,V.int y])=H6 at s6 ⊢;by_cases c:x=-1\/y=-1
  ·have i1:uE (V.int (-1)) [V.int x,V.int y]=true:=by
    rw [fH,yX,decide_eq_true_eq,decide_eq_true_eq];omega
   have z1:=f1 c;refine aM i1 (aM rfl (zr rfl (zr rfl ⟨rfl,zr rfl (aM (decide_eq_true (by rw [z1])) (zr rfl (zr rfl (zr rfl ⟨by show 2<=sizeLine;omega,λt3 Vd=>⟨t3,zr rfl ⟨.inr (bC.of xN),rfl,rfl,?_⟩⟩⟩))))⟩)));have s7:=s6.trans (xP (o:=HO.tup [V.int x,V.int y]) Vd);show Q (.bl (uE (V.int (-1)) [V.int x,V.int y])) _;rw [i1];exact q _ (XY.fB s7) (WO.bP s7)
  ·have i1:uE (V.int (-1)) [V.int x,V.int y]=false:=by
    rw [fH,decide_eq_false (by omega),decide_eq_false (by omega)];rfl
   obtain ⟨n3,x3,y3,z3⟩:=f2 (by omega) (by omega);refine aD i1 (zr rfl (zr rfl ⟨rfl,zr rfl (aD (decide_eq_false (λe=>n3 (V.int.inj e))) ?_)⟩));refine (zr rfl (zr rfl (mO rfl (zr rfl (aG rfl rfl (zr rfl (aM (decide_eq_true (by split <;> omega)) (zr rfl (zr rfl (aG rfl rfl (aG rfl rfl ?_)))))))))));show Q (.bl (decide (z<=x + y))) _;rw [decide_eq_true z3];exact q _ (XY.fB s6) (WO.bP s6)
theorem DV:ay ["_law_book_here", "_law_purse_here", "_law_sender", "_law_since", "_law_wishes_here", "_law_all", "_law_at", "_law_order", "_law_later"] ["_law_book_here", "_law_purse_here"] (aq xq):=L2.bw
theorem FR (T:Tx K mg a ak ai ah)(B:aW mg base):aT P w K mg base cB 9 a.AF a.Bx ["_law_book_here", "_law_purse_here"] (tR a.tP bM):=by
 have Aa:=wD P w base T B;have DM:=Er P w base T B;have F6:=Fs P w base T B;have Bi:=Es P w base T B;have DN:=Fd P w base T B;have G1:=FT P w base T B;refine T.A6.ok DV (λvs H Q E h=>?_) (λbK A outer s H vs Q E hr h=>?_)
 ·obtain ⟨_,_,_,_,_,_,rfl,_⟩:=h;rfl
 ·have nd:=DV.nd;have hu:=hr.units;obtain ⟨b,p,af,tr,tm,ps,rfl,hb,gd,r1,r8,Jw,pu,mt,q⟩:=h;refine bU ?_;intro Y
  let B0:Bk Y ((aj xq).drop 9):=⟨_,(xM (xk (xZ (cD (cM ic (pv 5) (cJ wd xO) (aB _)) (cg (xT DN (hr.mono (by decide)) rfl T.Dy T.Dz T.DA .nil av (xK (xL (xT Bi (hr.mono (by decide)) rfl T.BH T.BI T.BJ .nil av (xK (xL (pv 0) (xL (pv 2) (xL xO (xL (pv 4) xU rfl) rfl) rfl) rfl))) (xL (pv 5) xU rfl) rfl))))))))⟩
  let B1:Bk Y ((aj xq).drop 8):=⟨_,(xM (xf (xr (wo (wb (xT DN (hr.mono (by decide)) rfl T.Dy T.Dz T.DA .nil av (xK (xL (xT Bi (hr.mono (by decide)) rfl T.BH T.BI T.BJ .nil av (xK (xL (pv 0) (xL (pv 2) (xL (pv 3) (xL (pv 8) xU rfl) rfl) rfl) rfl))) (xL (pv 5) xU rfl) rfl))))) (xM (xk (xZ eY))) xh) B0.bl))⟩
  let B2:Bk Y ((aj xq).drop 7):=⟨_,(xM (xf (qH (ix:=8) nd rfl rfl (own:=["_law_walker", "_law_last"]) (caps:=[]) rfl (show bq ["_law_walker", "_law_last"] [] ["_law_book_here", "_law_purse_here", "_law_sender", "_law_since", "_law_wishes_here", "_law_all", "_law_at", "_law_order", "_law_later"] (aq xq) _ from L2.nE) (wf rfl (pv 4)) (λ_ _ _ _=>(xv (n:=2) rfl rfl (xS (xV (i:=0) (show List.Nodup (["_law_walker", "_law_last"]:List Str) from by decide +kernel) rfl rfl) (xS (xV (i:=1) (show List.Nodup (["_law_walker", "_law_last"]:List Str) from by decide +kernel) rfl rfl) xu)))) (λ_ _ _ _=>dZ) (λ_ _ _ _=>(xz (xK (xL (pv 0) (xL (xg gG xO xO) xU rfl) rfl))))) B1.bl))⟩
  let B3:Bk Y ((nb (aj xq) 6).drop 1):=⟨_,(xM (xk (xr (wo (wb (xT G1 (hr.mono (by decide)) rfl T.Gz T.GF T.GL .nil av (xK (xL (pv 0) (xL (pv 2) (xL (pv 3) (xL (pv 4) (xL (pv 6) (xL (pv 5) xU rfl) rfl) rfl) rfl) rfl) rfl))))) (xM (xk (xZ eY))) xh)))⟩
  let B4:Bk Y (nb (aj xq) 6):=⟨_,(xM (xf (xb (i:=6) nd rfl rfl (xg xt xO (xT Aa (hr.mono (by decide)) rfl T.Ab T.Ac T.Ae .nil av (xK (xL (pv 1) (xL (xg cF (xc (xX rfl) (by rfl) T.bA PySem.boot_len (xK (xL (pv 4) xU rfl))) xO) xU rfl) rfl))))) B3.bl))⟩
  let B5:Bk Y (nb (aj xq) 5):=⟨_,(xM (xk (xr (xi ic (xT Bi (hr.mono (by decide)) rfl T.BH T.BI T.BJ .nil av (xK (xL (pv 0) (xL (pv 2) (xL (pv 3) (xL (pv 7) xU rfl) rfl) rfl) rfl))) (pv 5) (aB _)) (xM (xk (xZ eY))) xh)))⟩
  let B6:Bk Y ((aj xq).drop 5):=⟨_,(xM (xf (wQ PassesOwn.never rfl (wf rfl (wA (xK (xL (mV rfl (pv 4)) (xL (xg qM (dM (gX rfl) (pv 4) (d9 (pv 6)) fT) (dM (gX rfl) (pv 4) fT (d9 (pv 6)))) xU rfl) rfl)))) (xV (i:=7) nd rfl rfl) B5.ps) (xf (xr (xi gf (xc (xX rfl) (by rfl) T.bA PySem.boot_len (xK (xL (pv 4) xU rfl))) xO (aB _)) B4.ps xh) B2.bl)))⟩
  let B7:Bk Y ((aj xq).drop 4):=⟨_,(xM (xf (xb (i:=6) nd rfl rfl (xT Aa (hr.mono (by decide)) rfl T.Ab T.Ac T.Ae .nil av (xK (xL (pv 1) (xL (xc (xX rfl) (by rfl) T.bA PySem.boot_len (xK (xL (pv 4) xU rfl))) xU rfl) rfl)))) B6.bl))⟩
  let B8:Bk Y ((aj xq).drop 3):=⟨_,(xM (xf (xb (i:=5) nd rfl rfl (xT Bi (hr.mono (by decide)) rfl T.BH T.BI T.BJ .nil av (xK (xL (pv 0) (xL (pv 2) (xL (pv 3) (xL (pv 4) xU rfl) rfl) rfl) rfl)))) B7.bl))⟩
  let B9:Bk Y ((aj xq).drop 2):=⟨_,(xM (xf (xb (i:=4) nd rfl rfl (xT F6 (hr.mono (by decide)) rfl T.FV T.FX T.FZ .nil av (xK (xL (pv 1) (xL (pv 0) (xL (xg xt xO (xg we (xT Aa (hr.mono (by decide)) rfl T.Ab T.Ac T.Ae .nil av (xK (xL (pv 1) (xL xO xU rfl) rfl))) xO)) xU rfl) rfl) rfl)))) B8.bl))⟩
  let RJ:Bk Y ((aj xq).drop 1):=⟨_,(xM (xf (xb (i:=3) nd rfl rfl (xT DM (hr.mono (by decide)) rfl T.E2 T.E5 T.E8 .nil av (xK (xL (pv 1) (xL (pv 0) (xL xO xU rfl) rfl) rfl)))) B9.bl))⟩
  refine ⟨_,(xM (xf (xb (i:=2) nd rfl rfl (xT Aa (hr.mono (by decide)) rfl T.Ab T.Ac T.Ae .nil av (xK (xL (pv 1) (xL (xc (xX rfl) (by rfl) T.bA PySem.boot_len (xK (xL (xY (xj rfl) (pv 0) xO (λ_ _=>rfl)) xU rfl))) xU rfl) rfl)))) RJ.bl)),?_⟩;have line:=bI;have c9:rP 10 9:=⟨by decide,by decide,by decide⟩;have uN:(2:Int) ^ 200 > 10000:=by decide
  refine (zr rfl (zr rfl (cH hb.book rfl ⟨tr,zr rfl ⟨.inr (bC.of hb.af),p,zr rfl ⟨by rw [zA];omega,by rw [zA];omega,pu,λd H1 d0 d1 g1=>?_⟩⟩⟩)));rw [zA] at d1;obtain ⟨k,rfl⟩:=zg d0;have hk:k < af.length:=by omega
  have lC:=hb.aR (g1.aR pu);refine (zr rfl (zr rfl (vc p b 0 af tr tm ps ⟨rfl,.inl rfl,lC,gd,g1.2,λa0 H2 O0 PD g2=>?_⟩)));have pD:=lC.aR (g2.aR g1.2);refine (zr rfl (zr rfl (zr rfl ⟨p,8,rfl,by decide,by decide,g2.2,λe H3 e0 e1 g3=>?_⟩)));have Ov:=pD.aR (g3.aR g2.2);refine (aG rfl rfl ⟨⟨by decide,by decide⟩,aG rfl rfl (vc p b _ af tr tm ps ⟨rfl,by omega,by omega,g3.2,Ov,gd,r1,by omega,λlw ws H4 g4 Pw Qo wa lo w1 w4'=>?_⟩)⟩);have w4:ws.length<=4:=by omega
  have VQ:=((g1.trans g2).trans g3).trans g4;have R4:i9 a.tP bM p H H4 b af tr tm ps lw ws:=⟨λc u _ n2 e=>VQ.1 c u n2 e,VQ.2,mt.go pu VQ,Ov.aR (g4.aR g3.2),wa,Qo⟩;refine (zr rfl (zr rfl (zr rfl (zr rfl (Mj b k a0 lw af tr tm ps ws ⟨rfl,R4.co gd r1 r8 Jw hk O0 PD,R4.wa,lo,w1,w4,λz H5 b5 YW mz=>?_⟩)))));have R5:=R4.but b5 YW;refine (zr rfl (zr rfl ⟨lw,zr rfl ⟨.inl (aJ.of R5.wa.1),p,zr rfl ⟨by rw [zA];omega,by rw [zA];omega,R5.pu,λnM H6 q0 q1 g6=>?_⟩⟩⟩));rw [zA] at q1;obtain ⟨nM,rfl⟩:=zg q0;have R6:=R5.go g6;refine (zr rfl ⟨lw,zr rfl ⟨aJ.of R6.wa.1,λl1 Vu=>?_⟩⟩);rw [<-List.map_reverse];have s7:=xP (o:=HO.lst (ws.reverse.map λa=>V.ref a.1)) Vu;have k7:upd H6 l1 (HO.lst (ws.reverse.map λa=>V.ref a.1)) l1=some (.lst (ws.reverse.map λa=>V.ref a.1)):=xN;generalize upd H6 l1 (HO.lst (ws.reverse.map λa=>V.ref a.1))=H7 at s7 k7 ⊢;have R7:=R6.same s7;refine (zr rfl (zr rfl (zr rfl ⟨lw,zr rfl ⟨aJ.of R7.wa.1,λl2 J1=>?_⟩⟩)));rw [pM,<- List.map_drop];have s8:=xP (o:=HO.lst ((ws.drop nM).map λa=>V.ref a.1)) J1;have k8:upd H7 l2 (HO.lst ((ws.drop nM).map λa=>V.ref a.1)) l2=some (.lst ((ws.drop nM).map λa=>V.ref a.1)):=xN;generalize upd H7 l2 (HO.lst ((ws.drop nM).map λa=>V.ref a.1))=H8 at s8 k8 ⊢;have R8:=R7.same s8;refine (zr rfl (zr rfl (zr rfl ⟨lw,zr rfl ⟨aJ.of R8.wa.1,λl3 QX=>?_⟩⟩)));rw [pL,<- List.map_take];have s9:=xP (o:=HO.lst ((ws.take nM).map λa=>V.ref a.1)) QX;have k9:upd H8 l3 (HO.lst ((ws.take nM).map λa=>V.ref a.1)) l3=some (.lst ((ws.take nM).map λa=>V.ref a.1)):=xN;generalize upd H8 l3 (HO.lst ((ws.take nM).map λa=>V.ref a.1))=H9 at s9 k9 ⊢;have R9:=R8.same s9;refine ⟨l2,l3,aG rfl rfl ⟨s9 _ _ k8,k9,by rw [zA,zA,zz,zk];omega,λl4 Pw=>?_⟩⟩;rw [<-zF];have jP:=xP (o:=HO.lst ((ws.drop nM++ws.take nM).map λa=>V.ref a.1)) Pw;have W0:upd H9 l4 (HO.lst ((ws.drop nM++ws.take nM).map λa=>V.ref a.1)) l4=some (.lst ((ws.drop nM++ws.take nM).map λa=>V.ref a.1)):=xN;generalize upd H9 l4 (HO.lst ((ws.drop nM++ws.take nM).map λa=>V.ref a.1))=ve at jP W0 ⊢;have R10:=R9.same jP;refine ⟨by show 2<=sizeLine;omega,λll qV=>?_⟩;have Ny:=xP (o:=HO.lst [V.ref l1,V.ref l4]) qV;have Pn:upd ve ll (HO.lst [V.ref l1,V.ref l4]) ll=some (.lst [V.ref l1,V.ref l4]):=xN;generalize upd ve ll (HO.lst [V.ref l1,V.ref l4])=RH at Ny Pn ⊢;have Ry:=R10.same Ny;have j1:=Ny _ _ (jP _ _ (s9 _ _ (s8 _ _ k7)));have j4:=Ny _ _ W0;refine ⟨ll,rfl,⟨_,aJ.of Pn⟩,?_⟩;refine (let W22:IV:=λi σ tD=>(∃ v7 v8,σ=[some (.ref b),some (.ref p),some (.int (k:Int)),some (.int a0),some (.ref lw),some (.int z),some (.int (nM:Int)),v7,v8])/\bV a.tP RH tD/\MT a.tP bM eB tD;fL (K:=K) (a:=ll) (xs:=[V.ref l1,V.ref l4]) W22 ⟨⟨_,_,rfl⟩,bV.refl _ _,Ry.mt⟩ ?_ ?_ ?_)
  ·rintro i σ tD _ ⟨_,OY,_⟩;exact aJ.of (cA Ry.mt OY Pn)
  ·rintro i v σ tD hv ⟨⟨v7,v8,rfl⟩,OY,NT⟩;have MW:=Ry.but OY NT;have many:∀ {u0:Addr}{vs:List (Addr×Nat×Int)},v=V.ref u0->RH u0=some (.lst (vs.map λa=>V.ref a.1))->(∀ x,x∈vs↔x∈ws)->vs.length=ws.length->∃ u0 vs,v=V.ref u0/\bS tD u0 af.length vs/\fY vs/\vs.length=ws.length/\∀ x,x∈wq vs↔x∈wq ws:=λ{u0} {vs} e k0 mm Y8=>
    ⟨u0,vs,e,MW.wa.vG (λx hx=>(mm x).mp hx) (cA Ry.mt OY k0),λx hx=>lo x ((mm x).mp hx),Y8,λx=>by
     unfold wq;rw [zS,zS];exact ⟨λ⟨y,hy,e⟩=>⟨y,(mm y).mp hy,e⟩,λ⟨y,hy,e⟩=>⟨y,(mm y).mpr hy,e⟩⟩⟩
   obtain ⟨u0,vs,rfl,wv,lv,nv,mv⟩:∃ u0 vs,v=V.ref u0/\bS tD u0 af.length vs/\fY vs/\vs.length=ws.length/\∀ x,x∈wq vs↔x∈wq ws:=by
    match i,hv with
    | 0,hv=>cases hv;exact many rfl j1 (λx=>yF) yY
    | 1,hv=>
     cases hv;refine many rfl j4 (λx=>?_) ?_
     ·rw [zQ,Or.comm,<- zQ,List.take_append_drop]
     ·rw [zO,zz,zk];omega
   refine (zr rfl (zr rfl (zr rfl (zr rfl (Mj b k a0 u0 af tr tm ps vs ⟨rfl,MW.co gd r1 r8 Jw hk O0 PD,wv,lv,by omega,by omega,λz' PF b13 UO UL=>?_⟩)))));have ez:=UL.same mz mv;subst ez;refine (zr rfl ⟨rfl,zr rfl (aD (by simp) ⟨⟨_,_,rfl⟩,OY.trans b13,UO⟩)⟩)
  ·rintro σ tD ⟨⟨v7,v8,rfl⟩,OY,NT⟩;have MW:=Ry.but OY NT;refine (zr rfl ⟨lw,zr rfl ⟨.inl (aJ.of MW.wa.1),aG rfl rfl (zr rfl ?_)⟩⟩);rw [zA];refine kZ (fun σ PF=>(∃ v6 v7 v8,σ=[some (.ref b),some (.ref p),some (.int (k:Int)),some (.int a0),some (.ref lw),some (.int z),v6,v7,v8])/\i9 a.tP bM p H PF b af tr tm ps lw ws) ?_ (λc kk=>?_) (λc=>⟨⟨_,_,_,rfl⟩,MW⟩)
   ·rintro σ PF ⟨⟨v6,v7,v8,rfl⟩,MV⟩;have Yp:(10:Int) ^ (9:Int).toNat=1000000000:=by decide
    refine (zr rfl ⟨lw,rfl,⟨_,aJ.of MV.wa.1⟩,?_⟩);refine (let W23:IC:=λi τ acc Mq=>∃ vs:List (Addr×Nat×Int),(∃ t0 t1,τ=[t0,t1])/\acc=(vs.map λa=>V.ref a.1)/\vs.length=i/\aA PF Mq/\∀ x∈vs,(Mq x.1=some (.tup [.int (x.2.1:Int),.int x.2.2])/\x.2.1 < af.length)/\x.2.2=1000000000/\∃ u∈ws,x.2.1=u.2.1;dR (K:=K) (a:=lw) (xs:=ws.map λa=>V.ref a.1) W23 ⟨[],⟨_,_,rfl⟩,rfl,rfl,aA.refl _,(λ_ h=>nomatch h)⟩ (by rw [zA];omega) ?_ ?_ ?_)
    ·rintro i τ acc Mq ⟨vs,_,rfl,e,Lp,_⟩;exact ⟨by rw [zA,e];exact zB _,aJ.of (Lp _ _ MV.wa.1)⟩
    ·rintro i v τ acc Mq C hv ⟨vs,⟨t0,t1,rfl⟩,rfl,e,Lp,MF⟩ hC;obtain ⟨x,hx,rfl⟩:=wP hv;have mx:=zD hx;obtain ⟨kx,lx⟩:=MV.wa.2 x mx;refine (rS (Lp _ _ kx) ?_);refine (zr rfl (aG rfl rfl ⟨c9,by show 2<=sizeLine;omega,λt ht=>?_⟩));have Pg:=xP (o:=HO.tup [V.int (x.2.1:Int),V.int ((10:Int) ^ (9:Int).toNat)]) ht;have R3:upd Mq t (HO.tup [V.int (x.2.1:Int),V.int ((10:Int) ^ (9:Int).toNat)]) t=some (.tup [V.int (x.2.1:Int),V.int 1000000000]):=by rw [xN,Yp]
     refine hC _ _ _ ⟨vs++[(t,x.2.1,1000000000)],⟨_,_,rfl⟩,by rw [zF];rfl,by rw [zO,e];rfl,Lp.trans Pg,λy hy=>?_⟩;rcases zQ.mp hy with h | h
     ·exact ⟨⟨Pg _ _ (MF y h).1.1,(MF y h).1.2⟩,(MF y h).2⟩
     ·cases zN.mp h;exact ⟨⟨R3,lx⟩,rfl,x,mx,rfl⟩
    ·rintro τ acc Mq ⟨vs,⟨t0,t1,rfl⟩,rfl,e,Lp,MF⟩ lc qW;rw [zA] at e;have Pg:=xP (o:=HO.lst (vs.map λa=>V.ref a.1)) qW;have R3:upd Mq lc (HO.lst (vs.map λa=>V.ref a.1)) lc=some (.lst (vs.map λa=>V.ref a.1)):=xN;generalize upd Mq lc (HO.lst (vs.map λa=>V.ref a.1))=H15 at Pg R3 ⊢;have X6:=MV.same (Lp.trans Pg);have wv:bS H15 lc af.length vs:=⟨R3,λx hx=>⟨Pg _ _ (MF x hx).1.1,(MF x hx).1.2⟩⟩;have fZ:∀ z∈wq vs,∃ u∈wq ws,z.1=u.1/\u.2<=z.2:=λz hz=>by
      obtain ⟨y,hy,rfl⟩:=zS.mp hz;obtain ⟨_,e9,u,hu,eu⟩:=MF y hy;exact ⟨u.2,yO hu,eu,by rw [e9];exact (lo u hu).2⟩
     refine (zr rfl (zr rfl (zr rfl (zr rfl (Mj b k a0 lc af tr tm ps vs ⟨rfl,X6.co gd r1 r8 Jw hk O0 PD,wv,(λx hx=>by rw [(MF x hx).2.1];exact ⟨by decide,by decide⟩),by omega,by omega,λz' H16 b16 UM UL=>?_⟩)))));have h1:=mz.later UL fZ;have V9:=X6.but b16 UM;refine (zr rfl ⟨z',z,rfl,h1.1,h1.2,zr rfl (aD rfl ?_)⟩);refine (zr rfl (zr rfl ⟨rfl,zr rfl (aM ?_ (zr rfl (zr rfl (zr rfl (Mj b k 0 lw af tr tm ps ws ⟨rfl,V9.co gd r1 r8 Jw hk (by decide) (by decide),V9.wa,lo,w1,w4,λz2 H17 b17 Qu YT=>?_⟩)))))⟩))
     ·rw [decide_eq_false (λh=>by have:=V.int.inj h;have:=mz.ge;omega)];rfl
     ·have h2:=mz.Rk gd O0 YT;exact (zr rfl ⟨z2,z,rfl,h2.1,h2.2,q _ (V9.but b17 Qu).rel Qu⟩)
   ·have c:=of_decide_eq_true c;refine (zr rfl (zr rfl ⟨lw,zr rfl ⟨.inl (aJ.of MW.wa.1),aG rfl rfl ⟨p,zr rfl ⟨by rw [zA];omega,by rw [zA];omega,MW.pu,λd PF d0 d1 g13=>?_⟩⟩⟩⟩));rw [zA] at d1;obtain ⟨d,rfl⟩:=zg d0;have MV:=MW.go g13;refine (aG rfl rfl (zr rfl (zr rfl (zr rfl (zr rfl (zr rfl (zr rfl ⟨b,k,a0,lw,1 + d,z,af,tr,tm,ps,ws,by rw [Int.natCast_add];rfl,MV.co gd r1 r8 Jw hk O0 PD,MV.wa,lo,by omega,by omega,w4,mz,λMq b14 UN=>(zr rfl (aD rfl (kk _ _ ⟨⟨_,_,_,rfl⟩,MV.but b14 UN⟩)))⟩)))))))
theorem IM:ay ["_law_script", "_law_great", "_law_book_here", "_law_k"] ["_law_script"] (aq Gc):=L2.bw
theorem Jk (T:Tx K mg a ak ai ah)(B:aW mg base):aT P w K mg base cB 10 a.EA a.Gm ["_law_script"] (mR K a.tP bM):=by
 have Dk:=FS P w base T B;have Aa:=wD P w base T B;have HF:=Gs P w base T B;have G0:=FR P w base T B;refine T.Fa.ok IM (λvs H Q E h=>?_) (λbK A outer s H vs Q E hr h=>?_)
 ·obtain ⟨_,_,rfl,_⟩:=h;rfl
 ·have nd:=IM.nd;have hu:=hr.units;obtain ⟨sa,ns,rfl,hS,hlen,mt,q⟩:=h;refine bU ?_;intro Y
  let B0:Bk Y (nb (aj Gc) 2):=⟨_,(xM (xk (xr (wo (wb (xT G0 (hr.mono (by decide)) rfl T.Gy T.GE T.GK .nil av (xK (xL (pv 2) (xL (xT Dk (hr.mono (by decide)) rfl T.C5 T.C7 T.C9 .nil av (xK (xL (pv 0) (xL (pv 3) xU rfl) rfl))) xU rfl) rfl))))) (xM (xk (xZ eY))) xh)))⟩
  let B1:Bk Y ((aj Gc).drop 2):=⟨_,(xM (xf (wQ PassesOwn.never rfl (uf rfl T.cz (xK (xL xO (xL (xc (fW rfl) (by rfl) T.sX PyProof.Rows.boot_max (xK (xL xO (xL (xc (i6 rfl) (by rfl) T.pX yd (xK (xL (xg cF xO (pv 1)) (xL (xc (xX rfl) (by rfl) T.bA PySem.boot_len (xK (xL (pv 0) xU rfl))) xU rfl) rfl))) xU rfl) rfl))) xU rfl) rfl))) (xV (i:=3) nd rfl rfl) B0.ps) (xk (xZ eY))))⟩
  let B2:Bk Y ((aj Gc).drop 1):=⟨_,(xM (xf (xb (i:=2) nd rfl rfl (xT HF (hr.mono (by decide)) rfl T.Hd T.Hj T.Hq .nil av (xK (xL (xT Dk (hr.mono (by decide)) rfl T.C5 T.C7 T.C9 .nil av (xK (xL (pv 0) (xL xO xU rfl) rfl))) (xL (xY (xW rfl) (wA (xK (xL xO (xL xO xU rfl) rfl))) (pv 1) (λ_ _=>rfl)) (xL (xY (xW rfl) (wA (xK (xL xO (xL xO xU rfl) rfl))) (pv 1) (λ_ _=>rfl)) xU rfl) rfl) rfl)))) B1.bl))⟩
  refine ⟨_,(xM (xf (xb (i:=1) nd rfl rfl (xg we (xT Aa (hr.mono (by decide)) rfl T.Ab T.Ac T.Ae .nil av (xK (xL (xT Dk (hr.mono (by decide)) rfl T.C5 T.C7 T.C9 .nil av (xK (xL (pv 0) (xL xO xU rfl) rfl))) (xL xO xU rfl) rfl))) xO)) B2.bl)),?_⟩;have line:=bI;have uN:(2:Int) ^ 200 > 10000:=by decide
  refine (zr rfl ⟨sa,ns,1,rfl,hS,by omega,λp1 H1 Pr WA s1=>?_⟩);refine ⟨p1,8,rfl,by decide,by decide,WA,λd H2 d0 d1 g2=>(aG rfl rfl ⟨⟨by decide,by decide⟩,?_⟩)⟩;have s2:aA H H2:=bV.same Pr s1 g2.1;have e1:d / 7=0\/d / 7=1:=by omega
  refine (zr rfl ⟨sa,ns,0,rfl,s2.seq hS,by omega,λp0 H3 Xc WB s3=>?_⟩);refine ⟨by show 2<=sizeLine;omega,λl0 K0=>?_⟩;have s4:=xP (o:=HO.lst [V.int 5,V.int 8]) K0;have k4:upd H3 l0 (HO.lst [V.int 5,V.int 8]) l0=some (.lst [V.int 5,V.int 8]):=xN;generalize upd H3 l0 (HO.lst [V.int 5,V.int 8])=H4 at s4 k4 ⊢;obtain ⟨wk,m,w1,w8,m24,ew,em⟩:∃ wk:Int,∃ m:Nat,1<=wk/\wk<=8/\m<=24/\dS [V.int 5,V.int 8] (d / 7)=some (V.int wk)/\dS [V.int 10,V.int 24] (d / 7)=some (V.int m):=by
   rcases e1 with e | e <;> rw [e]
   ·exact ⟨5,10,by decide,by decide,by decide,rfl,rfl⟩
   ·exact ⟨8,24,by decide,by decide,by decide,rfl,rfl⟩
  refine (zr rfl (bR k4 ew ⟨by show 2<=sizeLine;omega,λl5 Xj=>?_⟩));have s5:=xP (o:=HO.lst [V.int 10,V.int 24]) Xj;have k5:upd H4 l5 (HO.lst [V.int 10,V.int 24]) l5=some (.lst [V.int 10,V.int 24]):=xN;generalize upd H4 l5 (HO.lst [V.int 10,V.int 24])=H5 at s5 k5 ⊢;refine (zr rfl (bR k5 em ?_));refine ⟨p0,wk,m,rfl,by omega,by omega,by omega,(WB.same s4).same s5,λb af tr tm ps H6 g6 hb YB rm2 rm9 gd kT=>?_⟩;have sm:aA H H6:=λx u e=>g6.1 x u (xQ (s2 _ _ e) Xc) (s5 _ _ (s4 _ _ (s3 _ _ (s2 _ _ e))));have Pj:=mt.bP sm;have Xw:=sm.seq hS;clear sm g6 ew em Xc s5 s4 s3 k5 k4 Xj K0 WB s2 g2 s1 WA Pr hS mt;refine (zr rfl (aG rfl rfl (zr rfl ⟨sa,zr rfl ⟨.inl Xw,mO rfl (mO rfl (mO rfl ⟨⟨by decide,by decide,?_,?_⟩,?_⟩))⟩⟩)))
  ·split <;> (try split) <;> omega
  ·rw [zA];split <;> (try split) <;> omega
  refine (let W24:IV:=λi σ H8=>(∃ v3,σ=[some (.ref sa),some (.int (d / 7)),some (.ref b),v3])/\bV a.tP H6 H8/\MT a.tP bM eB H8;dQ (lo:=3) W24 ⟨⟨_,rfl⟩,bV.refl _ _,Pj⟩ ?_ ?_)
  ·rintro i σ H8 hi ⟨⟨v3,rfl⟩,b8,RZ⟩;have i60:i < 90:=by
    rw [zA] at hi
    revert hi
    split <;> (try split) <;> intro h <;> omega
   refine (zr rfl (zr rfl (zr rfl ⟨sa,ns,3 + i,by simp,MT.seq Pj b8 Xw,by omega,λp2 H9 Od YC s9=>?_⟩)));refine (VW b p2 af tr tm ps ⟨rfl,(hb.iA Pj b8).same s9,gd,YB,by omega,by omega,YC,RZ.bP s9,λHA rel YU=>(zr rfl (aD rfl ⟨⟨_,rfl⟩,λc u n e=>?_,YU⟩))⟩);have e8:=b8 c u n e;exact rel c u n (xQ e8 Od) (s9 _ _ e8)
  ·rintro σ H8 ⟨⟨v3,rfl⟩,b8,RZ⟩;exact q H8
end
theorem all_mk {l:PySem.W.OpenLaw}{w:World}{K:PySem.W.Frag}{h:Heap}{mg:Str->Option Value}{fa Dg DF Eb De DG Cs DI DE Dc D8 DB EL D9 EK DC EM Ig D6 D7 FG CF FE DD Cr BZ Ea Da GN FF CG Db EJ FD Dd CP BX CQ DJ Di DH CH Dh Df Jj tC tP:Addr}(X:K.In h)(G:h.Ns mainGlobals mg)(ZR:mg "law" = some (.ref fa))
  {By BO Cf Bw BP Ay BR BN Bu Cc BK Cz Cd Cy BL CA EN Ca Cb C0 AL CY BM Ax At Ce Bt DP CZ AM Az Cw CW Bv Ba Ao Bb BS BA BQ AN Bz Bx Gm:FuncData}{ak:Tok}{ai:Tok}{ah:Tok}
  (AG:zH K mainGlobals "_law_purse" = some (some (.ref Dg))) (A7:bu K "_law_purse" "_law_purse" wV Dg By)
  (AT:zH K mainGlobals "_law_take" = some (some (.ref DF))) (Bo:bu K "_law_take" "_law_take" wu DF BO)
  (Bh:zH K mainGlobals "_law_far" = some (some (.ref Eb))) (BG:bu K "_law_far" "_law_far" C3 Eb Cf)
  (AE:zH K mainGlobals "_law_rooms" = some (some (.ref De))) (A5:bu K "_law_rooms" "_law_rooms" wW De Bw)
  (AU:zH K mainGlobals "_law_step" = some (some (.ref DG))) (Bp:bu K "_law_step" "_law_step" ww DG BP)
  (Aj:zH K mainGlobals "_law_meetings" = some (some (.ref Cs))) (Aq:bu K "_law_meetings" "_law_meetings" xl Cs Ay)
  (AW:zH K mainGlobals "_law_book" = some (some (.ref DI))) (Br:bu K "_law_book" "_law_book" Cm DI BR)
  (AS:zH K mainGlobals "_law_time" = some (some (.ref DE))) (Bn:bu K "_law_time" "_law_time" wI DE BN)
  (AC:zH K mainGlobals "_law_whole" = some (some (.ref Dc))) (A3:bu K "_law_whole" "_law_whole" C2 Dc Bu)
  (Be:zH K mainGlobals "is_whole" = some (some (.ref D8))) (BD:bu K "is_whole" "is_whole" D3 D8 Cc)
  (AO:zH K mainGlobals "is_within" = some (some (.ref DB))) (Bj:bu K "is_within" "is_within" Dw DB BK)
  (BV:zH K mainGlobals "is_time" = some (some (.ref EL))) (Ci:bu K "is_time" "is_time" EE EL Cz)
  (Bf:zH K mainGlobals "is_below" = some (some (.ref D9))) (BE:bu K "is_below" "is_below" D4 D9 Cd)
  (BU:zH K mainGlobals "is_upto" = some (some (.ref EK))) (Ch:bu K "is_upto" "is_upto" ED EK Cy)
  (AQ:zH K mainGlobals "is_walker" = some (some (.ref DC))) (Bl:bu K "is_walker" "is_walker" Dx DC BL)
  (BW:zH K mainGlobals "by_time" = some (some (.ref EM))) (Cj:bu K "by_time" "by_time" DO EM CA)
  (DK:zH K mainGlobals "ways" = some (some (.ref Ig))) (Ed:bu K "ways" "ways" EC Ig EN)
  (Bc:zH K mainGlobals "other_at" = some (some (.ref D6))) (BB:bu K "other_at" "other_at" D2 D6 Ca)
  (Bd:zH K mainGlobals "lone_row" = some (some (.ref D7))) (BC:bu K "lone_row" "lone_row" C1 D7 Cb)
  (Cq:zH K mainGlobals "all_of" = some (some (.ref FG))) (CL:bu K "all_of" "all_of" Fp FG C0)
  (Al:zH K mainGlobals "without_wish" = some (some (.ref CF))) (Au:bu K "without_wish" "without_wish" CC CF AL)
  (Co:zH K mainGlobals "splits" = some (some (.ref FE))) (CJ:bu K "splits" "splits" En FE CY)
  (AR:zH K mainGlobals "is_letter" = some (some (.ref DD))) (Bm:bu K "is_letter" "is_letter" Cl DD BM)
  (Ai:zH K mainGlobals "first_givings" = some (some (.ref Cr))) (Ap:bu K "first_givings" "first_givings" wF Cr Ax)
  (Ag:zH K mainGlobals "earliest_times" = some (some (.ref BZ))) (Ak:bu K "earliest_times" "earliest_times" BY BZ At)
  (Bg:zH K mainGlobals "earliest" = some (some (.ref Ea))) (BF:bu K "earliest" "earliest" wU Ea Ce)
  (AA:zH K mainGlobals "still_open" = some (some (.ref Da))) (AY:bu K "still_open" "still_open" wX Da Bt)
  (CO:zH K mainGlobals "least" = some (some (.ref GN))) (Dl:bu K "least" "least" CN GN DP)
  (Cp:zH K mainGlobals "row_of" = some (some (.ref FF))) (CK:bu K "row_of" "row_of" CU FF CZ)
  (Am:zH K mainGlobals "least_prices" = some (some (.ref CG))) (Av:bu K "least_prices" "least_prices" wL CG AM)
  (AB:zH K mainGlobals "best_split" = some (some (.ref Db))) (AZ:bu K "best_split" "best_split" Cu Db Az)
  (BT:zH K mainGlobals "tree_by" = some (some (.ref EJ))) (Cg:bu K "tree_by" "tree_by" wC EJ Cw)
  (Cn:zH K mainGlobals "spread" = some (some (.ref FD))) (CI:bu K "spread" "spread" Ck FD CW)
  (AD:zH K mainGlobals "_law_times" = some (some (.ref Dd))) (A4:bu K "_law_times" "_law_times" wY Dd Bv)
  (Ar:zH K mainGlobals "_law_wishes" = some (some (.ref CP))) (AJ:bu K "_law_wishes" "_law_wishes" wN CP Ba)
  (Af:zH K mainGlobals "_law_tree_times" = some (some (.ref BX))) (Ah:bu K "_law_tree_times" "_law_tree_times" xp BX Ao)
  (As:zH K mainGlobals "_law_served" = some (some (.ref CQ))) (AK:bu K "_law_served" "_law_served" wj CQ Bb)
  (AX:zH K mainGlobals "_law_bars" = some (some (.ref DJ))) (Bs:bu K "_law_bars" "_law_bars" wB DJ BS)
  (AI:zH K mainGlobals "_law_never" = some (some (.ref Di))) (A9:bu K "_law_never" "_law_never" wy Di BA)
  (AV:zH K mainGlobals "_law_many" = some (some (.ref DH))) (Bq:bu K "_law_many" "_law_many" wJ DH BQ)
  (An:zH K mainGlobals "_law_no_more" = some (some (.ref CH))) (Aw:bu K "_law_no_more" "_law_no_more" CD CH AN)
  (AH:zH K mainGlobals "_law_parts" = some (some (.ref Dh))) (A8:bu K "_law_parts" "_law_parts" wZ Dh Bz)
  (AF:zH K mainGlobals "_law_right" = some (some (.ref Df))) (A6:bu K "_law_right" "_law_right" xq Df Bx)
  (EA:zH K mainGlobals "law" = some (some (.ref Jj))) (Fa:bu K "law" "law" Gc Jj Gm)
  (z_all:zH K mainGlobals "all" = some none)
  (z_bool:zH K mainGlobals "bool" = some none)
  (z_enumerate:zH K mainGlobals "enumerate" = some none)
  (z_int:zH K mainGlobals "int" = some none)
  (z_isinstance:zH K mainGlobals "isinstance" = some none)
  (z_len:zH K mainGlobals "len" = some none)
  (z_list:zH K mainGlobals "list" = some none)
  (z_max:zH K mainGlobals "max" = some none)
  (z_min:zH K mainGlobals "min" = some none)
  (z_range:zH K mainGlobals "range" = some none)
  (z_reversed:zH K mainGlobals "reversed" = some none)
  (z_sorted:zH K mainGlobals "sorted" = some none)
  (z_tuple:zH K mainGlobals "tuple" = some none)
  (g_LAST_TIME:zH K mainGlobals "LAST_TIME" = some (some (.int 1000000000 ak)))
  (g_MOST_SPREAD_WALKERS:zH K mainGlobals "MOST_SPREAD_WALKERS" = some (some (.int 8 ai)))
  (g_MOST_SPREAD_MEETINGS:zH K mainGlobals "MOST_SPREAD_MEETINGS" = some (some (.int 24 ah)))
  (h_cd:Az.code=.ref tC) (h_hd:PySem.W.codeHdIn K tC tP=true) :
  ∃ fd:FuncData,(∃ c,PySem.W.codeHdIn K c tP=true)/\(∀ (s:Shared) (v:Value),BindsTo s fd ⟨[v],[]⟩ [("_law_script", v)])/\∀ base:Heap,K.In base->base.Ns mainGlobals mg->aW mg base->aT l.prog w K mg base cB 10 fa fd ["_law_script"] (mR K tP bM):=by
 have e:=ZR.symm.trans (zL X G EA);cases e;have GU:=A7.binds (ps:=["_law_script_here", "_law_k_here"]) λ_ _ _ _ _ _ us hl=>rR hl λ_ _=>rfl;have Hw:=Bo.binds (ps:=["_law_purse_here_here", "_law_many_here"]) λ_ _ _ _ _ _ us hl=>rR hl λ_ _=>rfl;have Im:=BG.binds (ps:=["_law_purse_here_here"]) λ_ _ _ _ _ _ us hl=>K7 hl λ_=>rfl;have GS:=A5.binds (ps:=["_law_purse_here_here", "_law_walkers"]) λ_ _ _ _ _ _ us hl=>rR hl λ_ _=>rfl;have Hy:=Bp.binds (ps:=["_law_purse_here_here"]) λ_ _ _ _ _ _ us hl=>K7 hl λ_=>rfl;have Fi:=Aq.binds (ps:=["_law_purse_here_here", "_law_walkers", "_law_most"]) λ_ _ _ _ _ _ us hl=>uY hl λ_ _ _=>rfl;have HB:=Br.binds (ps:=["_law_purse_here_here", "_law_most_walkers", "_law_most_meetings"]) λ_ _ _ _ _ _ us hl=>uY hl λ_ _ _=>rfl;have Hv:=Bn.binds (ps:=["_law_purse_here_here", "_law_book_here_here", "_law_later_here"]) λ_ _ _ _ _ _ us hl=>uY hl λ_ _ _=>rfl;have GQ:=A3.binds (ps:=["_law_thing"]) λ_ _ _ _ _ _ us hl=>K7 hl λ_=>rfl;have Ij:=BD.binds (ps:=["thing"]) λ_ _ _ _ _ _ us hl=>K7 hl λ_=>rfl;have Hs:=Bj.binds (ps:=["thing", "least", "most"]) λ_ _ _ _ _ _ us hl=>uY hl λ_ _ _=>rfl;have II:=Ci.binds (ps:=["thing"]) λ_ _ _ _ _ _ us hl=>K7 hl λ_=>rfl;have Ik:=BE.binds (ps:=["number", "bound"]) λ_ _ _ _ _ _ us hl=>rR hl λ_ _=>rfl;have IH:=Ch.binds (ps:=["number", "bound"]) λ_ _ _ _ _ _ us hl=>rR hl λ_ _=>rfl;have Ht:=Bl.binds (ps:=["book", "thing"]) λ_ _ _ _ _ _ us hl=>rR hl λ_ _=>rfl;have IJ:=Cj.binds (ps:=["book", "time"]) λ_ _ _ _ _ _ us hl=>rR hl λ_ _=>rfl;have Jo:=Ed.binds (ps:=["book"]) λ_ _ _ _ _ _ us hl=>K7 hl λ_=>rfl;have Ih:=BB.binds (ps:=["book", "number", "walker"]) λ_ _ _ _ _ _ us hl=>uY hl λ_ _ _=>rfl;have Ii:=BC.binds (ps:=["book", "walker", "number"]) λ_ _ _ _ _ _ us hl=>uY hl λ_ _ _=>rfl;have Ja:=CL.binds (ps:=["wishes"]) λ_ _ _ _ _ _ us hl=>K7 hl λ_=>rfl;have FH:=Au.binds (ps:=["some", "number"]) λ_ _ _ _ _ _ us hl=>rR hl λ_ _=>rfl;have IY:=CJ.binds (ps:=["some"]) λ_ _ _ _ _ _ us hl=>K7 hl λ_=>rfl;have Hu:=Bm.binds (ps:=["book", "thing"]) λ_ _ _ _ _ _ us hl=>rR hl λ_ _=>rfl;have Fh:=Ap.binds (ps:=["book", "sender", "since"]) λ_ _ _ _ _ _ us hl=>uY hl λ_ _ _=>rfl;have EO:=Ak.binds (ps:=["book", "sender", "since"]) λ_ _ _ _ _ _ us hl=>uY hl λ_ _ _=>rfl;have Il:=BF.binds (ps:=["book", "letter"]) λ_ _ _ _ _ _ us hl=>rR hl λ_ _=>rfl;have GO:=AY.binds (ps:=["book", "wishes", "stretch", "walker", "some"]) λ_ _ _ _ _ _ us hl=>RL hl λ_ _ _ _ _=>rfl;have Jh:=Dl.binds (ps:=["book", "stretch", "walker", "some", "following"]) λ_ _ _ _ _ _ us hl=>RL hl λ_ _ _ _ _=>rfl;have IZ:=CK.binds (ps:=["book", "wishes", "stretch", "walker", "following"]) λ_ _ _ _ _ _ us hl=>RL hl λ_ _ _ _ _=>rfl;have FI:=Av.binds (ps:=["book", "wishes"]) λ_ _ _ _ _ _ us hl=>rR hl λ_ _=>rfl;have GP:=AZ.binds (ps:=["kept", "given", "some"]) λ_ _ _ _ _ _ us hl=>uY hl λ_ _ _=>rfl;have IG:=Cg.binds (ps:=["book", "sender", "since", "wishes", "prices"]) λ_ _ _ _ _ _ us hl=>RL hl λ_ _ _ _ _=>rfl;have IW:=CI.binds (ps:=["book", "sender", "since", "wishes"]) λ_ _ _ _ _ _ us hl=>RM hl λ_ _ _ _=>rfl;have GR:=A4.binds (ps:=["_law_book_here_here", "_law_sender_here", "_law_since_here"]) λ_ _ _ _ _ _ us hl=>uY hl λ_ _ _=>rfl;have F4:=AJ.binds (ps:=["_law_purse_here_here", "_law_book_here_here", "_law_most"]) λ_ _ _ _ _ _ us hl=>uY hl λ_ _ _=>rfl;have Ez:=Ah.binds (ps:=["_law_book_here_here", "_law_sender_here", "_law_since_here", "_law_steps"]) λ_ _ _ _ _ _ us hl=>RM hl λ_ _ _ _=>rfl;have F5:=AK.binds (ps:=["_law_times_here_here", "_law_wishes_here_here"]) λ_ _ _ _ _ _ us hl=>rR hl λ_ _=>rfl;have HC:=Bs.binds (ps:=["_law_book_here_here", "_law_letter_here", "_law_numbers"]) λ_ _ _ _ _ _ us hl=>uY hl λ_ _ _=>rfl;have GW:=A9.binds (ps:=["_law_book_here_here", "_law_sender_here", "_law_since_here", "_law_wishes_here_here"]) λ_ _ _ _ _ _ us hl=>RM hl λ_ _ _ _=>rfl;have HA:=Bq.binds (ps:=["_law_book_here", "_law_sender", "_law_since", "_law_wishes_here"]) λ_ _ _ _ _ _ us hl=>RM hl λ_ _ _ _=>rfl;have FJ:=Aw.binds (ps:=["_law_one", "_law_other"]) λ_ _ _ _ _ _ us hl=>rR hl λ_ _=>rfl;have GV:=A8.binds (ps:=["_law_book_here", "_law_sender", "_law_since", "_law_wishes_here", "_law_place", "_law_all"]) λ_ _ _ _ _ _ us hl=>Yl hl λ_ _ _ _ _ _=>rfl;have GT:=A6.binds (ps:=["_law_book_here", "_law_purse_here"]) λ_ _ _ _ _ _ us hl=>rR hl λ_ _=>rfl;have Jq:=Fa.binds (ps:=["_law_script"]) λ_ _ _ _ _ _ us hl=>K7 hl λ_=>rfl;have T:Tx K mg ⟨Dg,By,DF,BO,Eb,Cf,De,Bw,DG,BP,Cs,Ay,DI,BR,DE,BN,Dc,Bu,D8,Cc,DB,BK,EL,Cz,D9,Cd,EK,Cy,DC,BL,EM,CA,Ig,EN,D6,Ca,D7,Cb,FG,C0,CF,AL,FE,CY,DD,BM,Cr,Ax,BZ,At,Ea,Ce,Da,Bt,GN,DP,FF,CZ,CG,AM,Db,Az,EJ,Cw,FD,CW,Dd,Bv,CP,Ba,BX,Ao,CQ,Bb,DJ,BS,Di,BA,DH,BQ,CH,AN,Dh,Bz,Df,Bx,fa,Gm,tC,tP⟩ ak ai ah:=⟨A7,GU,zL X G AG,A7.kp,Bo,Hw,zL X G AT,Bo.kp,BG,Im,zL X G Bh,BG.kp,A5,GS,zL X G AE,A5.kp,Bp,Hy,zL X G AU,Bp.kp,Aq,Fi,zL X G Aj,Aq.kp,Br,HB,zL X G AW,Br.kp,Bn,Hv,zL X G AS,Bn.kp,A3,GQ,zL X G AC,A3.kp,BD,Ij,zL X G Be,BD.kp,Bj,Hs,zL X G AO,Bj.kp,Ci,II,zL X G BV,Ci.kp,BE,Ik,zL X G Bf,BE.kp,Ch,IH,zL X G BU,Ch.kp,Bl,Ht,zL X G AQ,Bl.kp,Cj,IJ,zL X G BW,Cj.kp,Ed,Jo,zL X G DK,Ed.kp,BB,Ih,zL X G Bc,BB.kp,BC,Ii,zL X G Bd,BC.kp,CL,Ja,zL X G Cq,CL.kp,Au,FH,zL X G Al,Au.kp,CJ,IY,zL X G Co,CJ.kp,Bm,Hu,zL X G AR,Bm.kp,Ap,Fh,zL X G Ai,Ap.kp,Ak,EO,zL X G Ag,Ak.kp,BF,Il,zL X G Bg,BF.kp,AY,GO,zL X G AA,AY.kp,Dl,Jh,zL X G CO,Dl.kp,CK,IZ,zL X G Cp,CK.kp,Av,FI,zL X G Am,Av.kp,AZ,GP,zL X G AB,AZ.kp,Cg,IG,zL X G BT,Cg.kp,CI,IW,zL X G Cn,CI.kp,A4,GR,zL X G AD,A4.kp,AJ,F4,zL X G Ar,AJ.kp,Ah,Ez,zL X G Af,Ah.kp,AK,F5,zL X G As,AK.kp,Bs,HC,zL X G AX,Bs.kp,A9,GW,zL X G AI,A9.kp,Bq,HA,zL X G AV,Bq.kp,Aw,FJ,zL X G An,Aw.kp,A8,GV,zL X G AH,A8.kp,A6,GT,zL X G AF,A6.kp,Fa,Jq,zL X G EA,Fa.kp,zl X G z_all,zl X G z_bool,zl X G z_enumerate,zl X G z_int,zl X G z_isinstance,zl X G z_len,zl X G z_list,zl X G z_max,zl X G z_min,zl X G z_range,zl X G z_reversed,zl X G z_sorted,zl X G z_tuple,h_hd,h_cd,zL X G g_LAST_TIME,zL X G g_MOST_SPREAD_WALKERS,zL X G g_MOST_SPREAD_MEETINGS⟩;obtain ⟨_,_,_,_,_,_,_,_,_,rfl,_,_⟩:=Fa.ex;exact ⟨_,⟨tC,h_hd⟩,λs v=>.of_eq rfl,λbase _ _ B=>Jk _ _ base T B⟩
theorem walk {l:PySem.W.OpenLaw}{q:Program}{loose:List Str}{XP:(Str->Option Value)->Heap->Prop}{YP:World->Heap->Prop}{d:DefRec}{K:Params->PySem.W.Frag}{T:Addr}(hn:l.most=some 63)(Q7:d.params.defaults=[])
  (hY:∀ (w:World) (h:Heap),YP w h->(K w.params).In h/\h.get? T=some (PySem.W.tabObj #[])) (nt:∀ w:World,PySem.W.noTabs (K w.params)=true)
  (F:∀ (w:World) (mg:Str->Option Value) (fa:Addr) (h:Heap),(K w.params).In h->h.Ns mainGlobals mg->mg d.name=some (.ref fa) ->
   ∃ fd:FuncData,(∃ c,PySem.W.codeHdIn (K w.params) c T=true)/\(∀ (s:Shared) (u:Value),BindsTo s fd ⟨[u],[]⟩ [("_law_script", u)])/\∀ base:Heap,(K w.params).In base->base.Ns mainGlobals mg->aW mg base->aT l.prog w (K w.params) mg base cB 10 fa fd ["_law_script"] (mR (K w.params) T bM)) :
  PySem.W.WalkO q loose XP YP l.row.toRowW d [] (λf vs=>PySem.call f vs):=
 L2.vo (n:=63) (k:=10) (x := "_law_script") (CX:=λ_=>cB) (sp:=λw=>mR (K w.params) T bM) hn (by decide) Q7 ⟨rfl,by decide,by decide,rfl⟩ hY nt F (λ_ _ a ns hl hT hS=>⟨a,ns,rfl,hS,hl,.inl hT,λ_=>rfl⟩) λ_ _ _ _ _ z=>z
end Sm
namespace PySem.W.Fast
def tw10711922544131070805:Nat:=0
def tw1969869105782667959:Nat:=0
def tw13928293969221836146:Nat:=0
def tw14161459283242911359:Nat:=0
def tw13551142312409225154:Nat:=0
def tw10397872995458347461:Nat:=0
def tw3018575263287828533:Nat:=0
def tw10794548124091301192:Nat:=0
def tw15627754775564847787:Nat:=0
def tw11817589980073353440:Nat:=0
def tw1164283454164095629:Nat:=0
def tw14381924912137288028:Nat:=0
def tw9301150574000259510:Nat:=0
def tw5362889361285189058:Nat:=0
def tw109339708836407434:Nat:=0
def tw18417066230968148280:Nat:=0
def tw565255301732565564:Nat:=0
def tw16223303860640999382:Nat:=0
def tw393597708242531254:Nat:=0
def tw7753635821214519862:Nat:=0
def tw9031917888056914403:Nat:=0
def tw4526349238049938113:Nat:=0
def tw15923272468826277224:Nat:=0
def tw18416699795199017362:Nat:=0
def tw1577901624791048673:Nat:=0
def tw2848746684099714640:Nat:=0
def tw11843588045150396475:Nat:=0
def tw11599873741546331968:Nat:=0
def tw16657414358932281046:Nat:=0
def tw11722728857304899452:Nat:=0
def tw7421842777083691099:Nat:=0
def tw13188675304255580791:Nat:=0
def tw17468232793248901046:Nat:=0
def tw10188237554402318024:Nat:=0
def tw11318029668756534635:Nat:=0
def tw6558076613118047222:Nat:=0
def tw8689077038142578046:Nat:=0
def tw15912772876342234189:Nat:=0
def tw11659500249629679617:Nat:=0
def tw4532054376644962860:Nat:=0
def tw6591048911872843357:Nat:=0
def tw17038942222850410689:Nat:=0
def tw16556890633520613374:Nat:=0
def tw18299857421633275158:Nat:=0
def tw15533576154696550178:Nat:=0
def tw11307585740527412423:Nat:=0
def tw6847413928017173220:Nat:=0
def tw17627868254698426251:Nat:=0
def tw11150502168392826223:Nat:=0
def tw10989537970142052098:Nat:=0
def tw1227227851423849135:Nat:=0
def tw16219127662183163340:Nat:=0
def tw5913028851184061332:Nat:=0
def tw11842251410790142138:Nat:=0
def tw6546285931195802169:Nat:=0
def tw235816142980919412:Nat:=0
def tw15467461813905746485:Nat:=0
def tw10526466172307929367:Nat:=0
def tw11261135643559499708:Nat:=0
def tw6588778959659389946:Nat:=0
def tw16136788544764735697:Nat:=0
def tw15297105850616604775:Nat:=0
def tw3078032166271418547:Nat:=0
def tw624372076237777723:Nat:=0
def tw9020068364990988331:Nat:=0
def tw3552252158239490749:Nat:=0
def tw12888681781573069999:Nat:=0
def tw17757499878405734518:Nat:=0
def tw18105459309352664937:Nat:=0
def tw7391212831432335840:Nat:=0
def tw6982445167030456629:Nat:=0
def tw7511295886623554357:Nat:=0
def tw9930041469711902632:Nat:=0
def tw14247621490409471143:Nat:=0
def tw4945542264404110325:Nat:=0
def tw3069239751947966370:Nat:=0
def tw722731938448126661:Nat:=0
def tw218278715927062355:Nat:=0
def tw16847266191563700922:Nat:=0
def tw11071819647955692984:Nat:=0
def tw13069363529195436822:Nat:=0
def tw7959543732274569351:Nat:=0
def tw10117391020066984235:Nat:=0
def tw9459519454376912607:Nat:=0
def tw2143668175818049245:Nat:=0
def tw17730554022335483881:Nat:=0
def tw15320391350905388214:Nat:=0
def tw2565827097392456917:Nat:=0
def tw5540033049749534475:Nat:=0
def tw15409930184817299265:Nat:=0
def tw4886415656433957713:Nat:=0
def tw3215669389660647231:Nat:=0
def tw8061236516022065858:Nat:=0
def tw12732992549672165002:Nat:=0
def tw10621712005446382630:Nat:=0
def tw17742865971819191436:Nat:=0
def tw2054092043946441955:Nat:=0
def tw1336486309317441787:Nat:=0
def tw17080145850945751176:Nat:=0
def tw16731450995689665767:Nat:=0
def tw224007523632805923:Nat:=0
def tw6642081639367837169:Nat:=0
def tw10222695410206841143:Nat:=0
def tw15292251477116537531:Nat:=0
def tw9010639427310145965:Nat:=0
def tw16114613924797187105:Nat:=0
def tw4178003778537253284:Nat:=0
def tw13653726120083298947:Nat:=0
def tw8947787936452225748:Nat:=0
def tw13872019995361470554:Nat:=0
def tw4273529349738691156:Nat:=0
def tw17617917115065452103:Nat:=0
def tw3934267098794673730:Nat:=0
def tw5410130116660135465:Nat:=0
def tw11602011764660816547:Nat:=0
def tw18143516322062205222:Nat:=0
def tw16957864182185365882:Nat:=0
def tw6915332200815230850:Nat:=0
def tw16021537075929935649:Nat:=0
def tw13116524028747897135:Nat:=0
def tw15670808728873814634:Nat:=0
def tw11487922334075752250:Nat:=0
def tw10235706470614302522:Nat:=0
def tw11016156410844420308:Nat:=0
def tw10810008604908031358:Nat:=0
def tw7572986720347285131:Nat:=0
def tw12584958192132136193:Nat:=0
def tw16251163003739178805:Nat:=0
def tw18141794341720505873:Nat:=0
def tw18080179897042528210:Nat:=0
def tw14670026685185210738:Nat:=0
def tw13522560771308135458:Nat:=0
def tw9431437049123415132:Nat:=0
def tw18039797074994759996:Nat:=0
def tw2240343866991934684:Nat:=0
def tw17374287769779082105:Nat:=0
def tw9853383545326981119:Nat:=0
def tw11129524116466227307:Nat:=0
def tw18048935964015830921:Nat:=0
def tw15969194345607393488:Nat:=0
def tw15799315742974711003:Nat:=0
def tw15547566309568533299:Nat:=0
def tw12238217642959126483:Nat:=0
def tw7845960980233979256:Nat:=0
def tw16600700617646705610:Nat:=0
def tw1604400304254016204:Nat:=0
def tw7983919196765253058:Nat:=0
def tw1061757681721243766:Nat:=0
def tw3766307382476786432:Nat:=0
def tw9861292346154811680:Nat:=0
def tw5931807872090555255:Nat:=0
def tw11866987649462332454:Nat:=0
end PySem.W.Fast
open PySem PySem.W PyProof.Rows
set_option maxRecDepth 100000 in
set_option maxHeartbeats 0 in
theorem PySem.Challenge.cw_satchelmeet_k64_whole_wishes_in_any_orde_holds : PySem.Challenge.rw_satchelmeet_k64_whole_wishes_in_any_orde.Holds := by
 w_on;o_law;k_head;(case hw=>w_witness2)
 k_fill
 refine Sm.walk (l:=PySem.Challenge.rw_satchelmeet_k64_whole_wishes_in_any_orde) rfl rfl (λw h Y=>⟨PySem.W.km_in_of Y,PySem.W.km_tabs_of Y _ (List.Mem.head _)⟩) (λw=>by kernel_rfl) ?F
 case F=>
  intro w mg fa h KX G hmg
  refine' Sm.all_mk KX G hmg ?AG ?A7 ?AT ?Bo ?Bh ?BG ?AE ?A5 ?AU ?Bp ?Aj ?Aq ?AW ?Br ?AS ?Bn ?AC ?A3 ?Be ?BD ?AO ?Bj ?BV ?Ci ?Bf ?BE ?BU ?Ch ?AQ ?Bl ?BW ?Cj ?DK ?Ed ?Bc ?BB ?Bd ?BC ?Cq ?CL ?Al ?Au ?Co ?CJ ?AR ?Bm ?Ai ?Ap ?Ag ?Ak ?Bg ?BF ?AA ?AY ?CO ?Dl ?Cp ?CK ?Am ?Av ?AB ?AZ ?BT ?Cg ?Cn ?CI ?AD ?A4 ?Ar ?AJ ?Af ?Ah ?As ?AK ?AX ?Bs ?AI ?A9 ?AV ?Bq ?An ?Aw ?AH ?A8 ?AF ?A6 ?EA ?Fa ?z_all ?z_bool ?z_enumerate ?z_int ?z_isinstance ?z_len ?z_list ?z_max ?z_min ?z_range ?z_reversed ?z_sorted ?z_tuple ?g_LAST_TIME ?g_MOST_SPREAD_WALKERS ?g_MOST_SPREAD_MEETINGS ?h_cd ?h_hd
  (case AG=>k_is)
  (case A7=>refine' L2.fun_mk ?x1 ?y1 ?z1;(case x1=>k_is);(case y1=>k_is);(case z1=>k_is))
  (case AT=>k_is)
  (case Bo=>refine' L2.fun_mk ?x3 ?y3 ?z3;(case x3=>k_is);(case y3=>k_is);(case z3=>k_is))
  (case Bh=>k_is)
  (case BG=>refine' L2.fun_mk ?x5 ?y5 ?z5;(case x5=>k_is);(case y5=>k_is);(case z5=>k_is))
  (case AE=>k_is)
  (case A5=>refine' L2.fun_mk ?x7 ?y7 ?z7;(case x7=>k_is);(case y7=>k_is);(case z7=>k_is))
  (case AU=>k_is)
  (case Bp=>refine' L2.fun_mk ?x9 ?y9 ?z9;(case x9=>k_is);(case y9=>k_is);(case z9=>k_is))
  (case Aj=>k_is)
  (case Aq=>refine' L2.fun_mk ?x11 ?y11 ?z11;(case x11=>k_is);(case y11=>k_is);(case z11=>k_is))
  (case AW=>k_is)
  (case Br=>refine' L2.fun_mk ?x13 ?y13 ?z13;(case x13=>k_is);(case y13=>k_is);(case z13=>k_is))
  (case AS=>k_is)
  (case Bn=>refine' L2.fun_mk ?x15 ?y15 ?z15;(case x15=>k_is);(case y15=>k_is);(case z15=>k_is))
  (case AC=>k_is)
  (case A3=>refine' L2.fun_mk ?x17 ?y17 ?z17;(case x17=>k_is);(case y17=>k_is);(case z17=>k_is))
  (case Be=>k_is)
  (case BD=>refine' L2.fun_mk ?x19 ?y19 ?z19;(case x19=>k_is);(case y19=>k_is);(case z19=>k_is))
  (case AO=>k_is)
  (case Bj=>refine' L2.fun_mk ?x21 ?y21 ?z21;(case x21=>k_is);(case y21=>k_is);(case z21=>k_is))
  (case BV=>k_is)
  (case Ci=>refine' L2.fun_mk ?x23 ?y23 ?z23;(case x23=>k_is);(case y23=>k_is);(case z23=>k_is))
  (case Bf=>k_is)
  (case BE=>refine' L2.fun_mk ?x25 ?y25 ?z25;(case x25=>k_is);(case y25=>k_is);(case z25=>k_is))
  (case BU=>k_is)
  (case Ch=>refine' L2.fun_mk ?x27 ?y27 ?z27;(case x27=>k_is);(case y27=>k_is);(case z27=>k_is))
  (case AQ=>k_is)
  (case Bl=>refine' L2.fun_mk ?x29 ?y29 ?z29;(case x29=>k_is);(case y29=>k_is);(case z29=>k_is))
  (case BW=>k_is)
  (case Cj=>refine' L2.fun_mk ?x31 ?y31 ?z31;(case x31=>k_is);(case y31=>k_is);(case z31=>k_is))
  (case DK=>k_is)
  (case Ed=>refine' L2.fun_mk ?x33 ?y33 ?z33;(case x33=>k_is);(case y33=>k_is);(case z33=>k_is))
  (case Bc=>k_is)
  (case BB=>refine' L2.fun_mk ?x35 ?y35 ?z35;(case x35=>k_is);(case y35=>k_is);(case z35=>k_is))
  (case Bd=>k_is)
  (case BC=>refine' L2.fun_mk ?x37 ?y37 ?z37;(case x37=>k_is);(case y37=>k_is);(case z37=>k_is))
  (case Cq=>k_is)
  (case CL=>refine' L2.fun_mk ?x39 ?y39 ?z39;(case x39=>k_is);(case y39=>k_is);(case z39=>k_is))
  (case Al=>k_is)
  (case Au=>refine' L2.fun_mk ?x41 ?y41 ?z41;(case x41=>k_is);(case y41=>k_is);(case z41=>k_is))
  (case Co=>k_is)
  (case CJ=>refine' L2.fun_mk ?x43 ?y43 ?z43;(case x43=>k_is);(case y43=>k_is);(case z43=>k_is))
  (case AR=>k_is)
  (case Bm=>refine' L2.fun_mk ?x45 ?y45 ?z45;(case x45=>k_is);(case y45=>k_is);(case z45=>k_is))
  (case Ai=>k_is)
  (case Ap=>refine' L2.fun_mk ?x47 ?y47 ?z47;(case x47=>k_is);(case y47=>k_is);(case z47=>k_is))
  (case Ag=>k_is)
  (case Ak=>refine' L2.fun_mk ?x49 ?y49 ?z49;(case x49=>k_is);(case y49=>k_is);(case z49=>k_is))
  (case Bg=>k_is)
  (case BF=>refine' L2.fun_mk ?x51 ?y51 ?z51;(case x51=>k_is);(case y51=>k_is);(case z51=>k_is))
  (case AA=>k_is)
  (case AY=>refine' L2.fun_mk ?x53 ?y53 ?z53;(case x53=>k_is);(case y53=>k_is);(case z53=>k_is))
  (case CO=>k_is)
  (case Dl=>refine' L2.fun_mk ?x55 ?y55 ?z55;(case x55=>k_is);(case y55=>k_is);(case z55=>k_is))
  (case Cp=>k_is)
  (case CK=>refine' L2.fun_mk ?x57 ?y57 ?z57;(case x57=>k_is);(case y57=>k_is);(case z57=>k_is))
  (case Am=>k_is)
  (case Av=>refine' L2.fun_mk ?x59 ?y59 ?z59;(case x59=>k_is);(case y59=>k_is);(case z59=>k_is))
  (case AB=>k_is)
  (case AZ=>refine' L2.fun_mk ?x61 ?y61 ?z61;(case x61=>k_is);(case y61=>k_is);(case z61=>k_is))
  (case BT=>k_is)
  (case Cg=>refine' L2.fun_mk ?x63 ?y63 ?z63;(case x63=>k_is);(case y63=>k_is);(case z63=>k_is))
  (case Cn=>k_is)
  (case CI=>refine' L2.fun_mk ?x65 ?y65 ?z65;(case x65=>k_is);(case y65=>k_is);(case z65=>k_is))
  (case AD=>k_is)
  (case A4=>refine' L2.fun_mk ?x67 ?y67 ?z67;(case x67=>k_is);(case y67=>k_is);(case z67=>k_is))
  (case Ar=>k_is)
  (case AJ=>refine' L2.fun_mk ?x69 ?y69 ?z69;(case x69=>k_is);(case y69=>k_is);(case z69=>k_is))
  (case Af=>k_is)
  (case Ah=>refine' L2.fun_mk ?x71 ?y71 ?z71;(case x71=>k_is);(case y71=>k_is);(case z71=>k_is))
  (case As=>k_is)
  (case AK=>refine' L2.fun_mk ?x73 ?y73 ?z73;(case x73=>k_is);(case y73=>k_is);(case z73=>k_is))
  (case AX=>k_is)
  (case Bs=>refine' L2.fun_mk ?x75 ?y75 ?z75;(case x75=>k_is);(case y75=>k_is);(case z75=>k_is))
  (case AI=>k_is)
  (case A9=>refine' L2.fun_mk ?x77 ?y77 ?z77;(case x77=>k_is);(case y77=>k_is);(case z77=>k_is))
  (case AV=>k_is)
  (case Bq=>refine' L2.fun_mk ?x79 ?y79 ?z79;(case x79=>k_is);(case y79=>k_is);(case z79=>k_is))
  (case An=>k_is)
  (case Aw=>refine' L2.fun_mk ?x81 ?y81 ?z81;(case x81=>k_is);(case y81=>k_is);(case z81=>k_is))
  (case AH=>k_is)
  (case A8=>refine' L2.fun_mk ?x83 ?y83 ?z83;(case x83=>k_is);(case y83=>k_is);(case z83=>k_is))
  (case AF=>k_is)
  (case A6=>refine' L2.fun_mk ?x85 ?y85 ?z85;(case x85=>k_is);(case y85=>k_is);(case z85=>k_is))
  (case EA=>k_is)
  (case Fa=>refine' L2.fun_mk ?x87 ?y87 ?z87;(case x87=>k_is);(case y87=>k_is);(case z87=>k_is))
  (case z_all=>k_is)
  (case z_bool=>k_is)
  (case z_enumerate=>k_is)
  (case z_int=>k_is)
  (case z_isinstance=>k_is)
  (case z_len=>k_is)
  (case z_list=>k_is)
  (case z_max=>k_is)
  (case z_min=>k_is)
  (case z_range=>k_is)
  (case z_reversed=>k_is)
  (case z_sorted=>k_is)
  (case z_tuple=>k_is)
  (case g_LAST_TIME=>k_is)
  (case g_MOST_SPREAD_WALKERS=>k_is)
  (case g_MOST_SPREAD_MEETINGS=>k_is)
  (case h_cd=>rfl)
  (case h_hd=>kernel_rfl)

