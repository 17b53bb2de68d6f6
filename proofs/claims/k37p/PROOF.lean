import PyProof.Rows.All
import Wide.All
import OpenK.AllK
import Wide.FinOn
import Lean
import PyProof.EqAt
import PyProof.EqKinds
import PyProof.TupleCall
import KE.KDictOf
import PyProof.AttrMissHeap
import PyProof.StrWalks
import PyProof.StrBlockI
import PyProof.FString5
import PyProof.SetRoads
import PyProof.SetNew
import PyProof.TupleKey
import PyProof.InstEq
import PySem.SetOps
import PyProof.Rows.SetFrom
import KE.KTryMore
import PyProof.NsDelKeeps
import KE.KIsAll
import KE.KItemsList
import KE.KSortTup
import KE.KDictSum
import KE.KLam
import KE.KNestM
import KE.KSortTup
import PySem.Challenge.RW_satchelmeet_k37_whole_plans_looked_at
open List renaming length_map → zA,map_append → zB,mem_of_getElem? → zC,getElem?_map → zD,mem_singleton → zE,getElem?_eq_getElem → zF,mem_cons → zG,length_cons → zH,map_cons → zI,not_mem_nil → zK,length_nil → zL,set_cons_zero → zM,set_cons_succ → zN,append_nil → zO,cons_append → zP,getElem?_eq_some_iff → zQ,length_take → zR,mem_append_right → zS,length_append → zU,mem_append → zV,mem_map → zX,getD_eq_getElem?_getD → zZ,nil_append → zb,mem_cons_of_mem → zc,take_length → zd,size_toArray → zf,map_nil → zg,mem_cons_self → zo,map_map → zz,getElem_mem → yC,mem_or_eq_of_mem_set → yE,getElem?_eq_none → yF,all_eq_true → yH,length_set → yI,mem_range → yK,getElem?_append_right → yL,lookup_cons → yN,map_set → yP,getElem?_zip_eq_some → yQ,getElem?_of_mem → yV,zip_cons_cons → yW,take_of_length_le → yY,getElem?_append_left → yZ,replicate_succ → ya,length_replicate → yb,sum_cons → ye,mem_append_left → yh,getElem?_replicate → yi,all_cons → yk,length_range → yl,all_map → ym,getElem_of_mem → yn,getElem?_range → yo,length_singleton → yr,mem_of_mem_take → yt,ext_getElem? → yu,sum_append → yw,length_drop → yx,mem_filterMap → yy,flatten_cons → xB,pairwise_map → xD,filterMap_cons → xE,mem_map_of_mem → xF,nodup_cons → xH,foldl_cons → xI,append_assoc → xK,nodup_append → xL,map_take → xN
open Nat renaming le_refl → zJ,reduceAdd → zj,reduceSub → zk,zero_add → zn,add_zero → zp,lt_of_lt_of_le → zq,ne_of_lt → zt,zero_le → zx,le_trans → yG,lt_irrefl → yM,ne_of_gt → yf,not_lt_zero → yg,le_add_right → yj,lt_succ_iff → yq,le_of_lt → xA,lt_succ_of_lt → xC,le_of_not_lt → xM
open PySem.W renaming nsIn → zT,keepIn → zY,mg_of → ze,mg_none_of → yJ,kia_one → yX,fnOf → xO
open Bool renaming and_eq_true → zW,false_ne_true → za,true_and → zu,false_eq_true → zw,false_and → yR,and_false → yU,eq_iff_iff → xG
open PyProof.Rows renaming boot_isinstance → zh,boot_tuple → zy,boot_list → yD,boot_all → yO,boot_int → yS,callWith_type1 → yT,boot_min → yc,boot_sum → yd
open Int renaming eq_ofNat_of_zero_le → zm,toNat_natCast → yA,zero_add → yB,le_refl → yp,emod_lt_of_pos → yz,emod_nonneg → xJ
open PySem renaming mem_of_lookup → zv
set_option Elab.async false
set_option linter.all false
set_option maxRecDepth 100000
set_option maxHeartbeats 4000000
namespace L2
open PySem PySem.Spec PyProof.Rows
abbrev Key:=Sum Int Str
def mq:Key->Value->Bool
 | .inl k,v=>Value.isInt k v
 | .inr x,v=>Value.isStrOf x v
def Zz (w:World):Key->Int
 | .inl k=>hashInt k
 | .inr x=>hashStr w x
theorem w6:∀ {k:Key}{v:Value},mq k v=true->(∃ i t,k=Sum.inl i/\v=Value.int i t)\/(∃ x t,k=Sum.inr x/\v=Value.str x t)
 | .inl i,v,h=>by
  obtain ⟨t,e⟩:=Value.isInt_shape (k:=i) (v:=v) h;exact .inl ⟨i,t,rfl,e⟩
 | .inr x,v,h=>by
  obtain ⟨t,e⟩:=Value.isStrOf_shape (x:=x) (v:=v) h;exact .inr ⟨x,t,rfl,e⟩
theorem Jk (i:Int)(t:Tok):mq (.inl i) (.int i t)=true:=by simp [mq,Value.isInt]
theorem Jj (x:Str)(t:Tok):mq (.inr x) (.str x t)=true:=by simp [mq,Value.isStrOf]
theorem QW (a b:Int):decide ((Sum.inl a:Key)=Sum.inl b)=(a == b):=by
 by_cases e:a=b
 ·subst e;simp
 ·have h:¬ (Sum.inl a:Key)=Sum.inl b:=λq=>e (Sum.inl.inj q);rw [decide_eq_false h];exact (beq_eq_false_iff_ne.mpr e).symm
theorem QS (a b:Str):decide ((Sum.inr a:Key)=Sum.inr b)=decide (a=b):=by
 by_cases e:a=b
 ·subst e;simp
 ·have h:¬ (Sum.inr a:Key)=Sum.inr b:=λq=>e (Sum.inr.inj q);rw [decide_eq_false h,decide_eq_false e]
theorem QV (a:Int)(b:Str):decide ((Sum.inl a:Key)=Sum.inr b)=false:=decide_eq_false (λq=>nomatch q)
theorem QT (a:Str)(b:Int):decide ((Sum.inr a:Key)=Sum.inl b)=false:=decide_eq_false (λq=>nomatch q)
def cL (prog:Program)(w:World):PySem.KeyKind prog w Key where
 is:=mq
 hash:=Zz w
 inj:=λv a b ha hb=>by
  rcases w6 ha with ⟨i,t,rfl,rfl⟩ | ⟨x,t,rfl,rfl⟩
  ·rcases w6 hb with ⟨j,u,rfl,e⟩ | ⟨y,u,rfl,e⟩
   ·injection e with e1 _;rw [e1]
   ·exact nomatch e
  ·rcases w6 hb with ⟨j,u,rfl,e⟩ | ⟨y,u,rfl,e⟩
   ·exact nomatch e
   ·injection e with e1 _;rw [e1]
 byValue:=λk v h=>by
  rcases w6 h with ⟨i,t,rfl,rfl⟩ | ⟨x,t,rfl,rfl⟩ <;> rfl
 pyHash:=λhv h=>by
  rcases w6 hv with ⟨i,t,rfl,rfl⟩ | ⟨x,t,rfl,rfl⟩
  ·exact wpAny_pyHash_int h
  ·exact wpAny_pyHash_str h
 eqBool:=λhu hv h=>by
  rcases w6 hu with ⟨i,t,rfl,rfl⟩ | ⟨x,t,rfl,rfl⟩
  ·rcases w6 hv with ⟨j,u,rfl,rfl⟩ | ⟨y,u,rfl,rfl⟩
   ·rw [QW] at h;exact wpAny_eqBool_int h
   ·rw [QV] at h;exact SeqAt.EqAt.int_str i t y u _ _ _ _ h
  ·rcases w6 hv with ⟨j,u,rfl,rfl⟩ | ⟨y,u,rfl,rfl⟩
   ·rw [QT] at h;exact SeqAt.EqAt.str_int x t j u _ _ _ _ h
   ·rw [QS] at h;exact wpAny_eqBool_str h
 «strs»:=λk x t v h=>by
  rcases w6 h with ⟨i,u,rfl,e⟩ | ⟨y,u,rfl,e⟩
  ·exact nomatch e
  ·injection e with e1 _
   subst e1;cases v <;> rfl
theorem pX (prog:Program)(w:World)(i:Int)(t:Tok):(cL prog w).is (.inl i) (.int i t)=true:=Jk i t
theorem pW (prog:Program)(w:World)(x:Str)(t:Tok):(cL prog w).is (.inr x) (.str x t)=true:=Jj x t
inductive V where
 | bF | bl (b:Bool) | int (i:Int) | str (x:Str) | JX (b:Array UInt8) | Ro (b:UInt64) | ref (a:Addr) | ty (n:String)
 deriving DecidableEq
def RelV:V->Value->Prop
 | .bF,u=>u=Value.none
 | .bl b,u=>u=Value.bool b
 | .int i,u=>∃ t,u=Value.int i t
 | .str x,u=>∃ t,u=Value.str x t
 | .JX b,u=>∃ t,u=Value.bytes b t
 | .Ro b,u=>∃ t,u=Value.float b t
 | .ref a,u=>u=Value.ref a
 | .ty n,u=>u=Value.type n
abbrev Vals:List V->List Value->Prop:=Paired RelV
theorem Vals.length {xs:List V}{us:List Value}(r:Vals xs us):xs.length=us.length:=Paired.length r
theorem Vals.get:∀ {xs:List V}{us:List Value}{i:Nat}{x:V},Vals xs us->xs[i]?=some x->∃ u,us[i]?=some u/\RelV x u
 | _,_,_,_,.nil,e=>by simp at e
 | _,_,0,_,.cons r _,e=>by simp at e;subst e;exact ⟨_,rfl,r⟩
 | _,_,i + 1,x,.cons _ t,e=>by
  obtain ⟨u,h1,h2⟩:=Vals.get (i:=i) (x:=x) t (by simpa using e);exact ⟨u,by simpa using h1,h2⟩
theorem Vals.set {x:V}{u:Value}(r:RelV x u):∀ {xs:List V}{us:List Value} (i:Nat),Vals xs us->Vals (xs.set i x) (us.set i u)
 | _,_,_,.nil=>.nil
 | _,_,0,.cons _ t=>.cons r t
 | _,_,i + 1,.cons q t=>.cons q (Vals.set r i t)
theorem Vals.append:∀ {xs ys:List V}{us ws:List Value},Vals xs us->Vals ys ws->Vals (xs++ys) (us++ws)
 | _,_,_,_,.nil,s=>s
 | _,_,_,_,.cons r t,s=>.cons r (Vals.append t s)
theorem Vals.take:∀ {xs:List V}{us:List Value} (n:Nat),Vals xs us->Vals (xs.take n) (us.take n)
 | _,_,0,_=>.nil
 | _,_,_ + 1,.nil=>.nil
 | _,_,n + 1,.cons r t=>.cons r (Vals.take n t)
theorem Vals.drop:∀ {xs:List V}{us:List Value} (n:Nat),Vals xs us->Vals (xs.drop n) (us.drop n)
 | _,_,0,r=>r
 | _,_,_ + 1,.nil=>.nil
 | _,_,n + 1,.cons _ t=>Vals.drop n t
def RC:Option V->Option Value->Prop
 | some v,some u=>RelV v u
 | none,none=>True
 | _,_=>False
def KV {κ:Type}:List (κ×V)->List (κ×Value)->Prop:=Paired λ(p:κ×V) (q:κ×Value)=>p.1=q.1/\RelV p.2 q.2
def kV:Key->V
 | .inl i=>.int i
 | .inr x=>.str x
inductive HO where
  | lst (xs:List V)
  | tup (xs:List V)
  | dK (iF:List (Key×V)) | dT (iF:List (List Key×V))
  | set (S:Int->Bool) (n:Nat)
  | ins (C dx:Addr) (fs:List (Str×V))
  | own (x:Addr)
  | xd (fs:List (Str×V))
  | met (f x:Addr)
  | VR (lo hi:Int)
  | qz (o:Obj) (u:HO)
  | OH (ps:Array Value)
  | ext (φ:Heap->Prop)
abbrev Hp:=Addr->Option HO
def upd (H:Hp)(a:Addr)(o:HO):Hp:=λb=>if b=a then some o else H b
theorem xQ {H:Hp}{a:Addr}{o:HO}:upd H a o a=some o:=by unfold upd;rw [if_pos rfl]
theorem xj {H:Hp}{a b:Addr}{o:HO}(h:b≠a):upd H a o b=H b:=by unfold upd;rw [if_neg h]
theorem qe {H:Hp}{a b:Addr}{o u:HO}(h:H a=some o)(h':H b=some u)(d:o≠u):a≠b:=by intro e;subst e;rw [h] at h';exact d (Option.some.inj h')
theorem xV {H:Hp}{a b:Addr}{o:HO}(h:H a=some o)(h':H b=none):a≠b:=by intro e;subst e;rw [h] at h';cases h'
theorem kB {h:Heap}{o:Obj}(hf:o.isFreed=false:=by rfl)(hd:o.dict=none:=by rfl):∀ ob,(h.push o).get? h.objs.size=some ob->ob.dict=none:=λob e=>by
 rw [Heap.get?_push_size h hf] at e;cases e;exact hd
section
variable (P:Program) (w:World)
def bA (H:Hp)(h:Heap)(a:Addr):HO->Prop
 | .lst xs=>xs.length<=sizeLine/\∃ (aC:List Value) (n:Nat),Vals xs aC/\h.get? a=some { cls:=.type "list", data:=.seq aC.toArray n }
 | .tup xs=>(xs.length<=sizeLine/\∀ ob,h.get? a=some ob->ob.dict=none)/\∃ aC:List Value,Vals xs aC/\IsTup h a aC.toArray
 | .dK iF=>iF.length<=sizeLine/\(a == sysModules)=false/\∃ vs,KV iF vs/\h.DictOf (cL P w) a vs
 | .dT iF=>iF.length<=sizeLine/\(a == sysModules)=false/\∃ xs:List (List Key×Addr×Value),
   Paired (λ(p:List Key×V) (q:List Key×Addr×Value)=>p.1=q.1/\H q.2.1=some (.tup (p.1.map kV))/\RelV p.2 q.2.2) iF xs /\
   ∃ o es ep,h.get? a=some o/\o.ExactDict/\o.data=.dict es ep/\es.toList=xs.map (entryOfKey (tupleKind (cL P w)))/\(xs.map (·.1)).Nodup
 | .set S n=>h.SetOf (intKind P w) a S n
 | .ins C dx fs=>H dx=some (.own a)/\fs.length<=1000/\dx≠a/\h.get? a=some (PySem.W.instObj C dx) /\
   ∃ mA,h.Ns1 dx mA/\(∀ f,RC (fs.lookup f) (mA f))/\PySem.Within mA (fs.map (·.1))
 | .own _=>∃ o,h.get? a=some o
 | .xd fs=>∃ mA,h.Ns1 a mA/\∀ f,RC (fs.lookup f) (mA f)
 | .VR lo hi=>∃ t u v,h.get? a=some { cls:=.type "range", data:=.fields #[.int lo t,.int hi u,.int 1 v] }
 | .qz o u=>h.get? a=some o/\bA H h a u
 | .OH ps=>h.get? a=some { cls:=.none,data:=.fields ps }
 | .met f x=>h.get? a=some (PySem.W.methodObj (.ref f) (.ref x))
 | .ext φ=>φ h/\(∃ o,h.get? a=some o)/\∀ h1 h2:Heap,φ h1->(∀ o,h1.get? a=some o->h2.get? a=some o)->φ h2
def gS (H:Hp)(h:Heap):Prop:=∀ a o,H a=some o->bA P w H h a o
end
section
variable {P:Program}{w:World}{H H':Hp}{h h':Heap}{a:Addr}{o:HO}
theorem bA.lt (x:bA P w H h a o):a < h.objs.size:=by
 cases o with
 | lst xs=>obtain ⟨_,_,_,_,e⟩:=x;exact Heap.lt_size e
 | tup xs=>obtain ⟨_,_,_,p⟩:=x;exact p.lt
 | dK iF=>obtain ⟨_,_,_,_,o,_,_,e,_⟩:=x;exact Heap.lt_size e
 | dT iF=>obtain ⟨_,_,_,_,o,_,_,e,_⟩:=x;exact Heap.lt_size e
 | set S n=>obtain ⟨o,_,_,_,e,_⟩:=x;exact Heap.lt_size e
 | ins C dx fs=>obtain ⟨_,_,_,e,_⟩:=x;exact Heap.lt_size e
 | own y=>obtain ⟨_,e⟩:=x;exact Heap.lt_size e
 | xd fs=>obtain ⟨_,⟨_,_,_,e,_⟩,_⟩:=x;exact Heap.lt_size e
 | VR lo hi=>obtain ⟨_,_,_,e⟩:=x;exact Heap.lt_size e
 | qz ob u=>obtain ⟨e,_⟩:=x;exact Heap.lt_size e
 | OH ps=>exact Heap.lt_size (show h.get? a=some _ from x)
 | met f y=>exact Heap.lt_size (show h.get? a=some _ from x)
 | ext φ=>obtain ⟨_,⟨_,e⟩,_⟩:=x;exact Heap.lt_size e
theorem Paired.Tw {α β:Type}{F G:α->β->Prop}:∀ {TJ:List α}{TH:List β},Paired F TJ TH->(∀ a b,F a b->G a b)->Paired G TJ TH
 | _,_,.nil,_=>.nil
 | _,_,.cons r t,f=>.cons (f _ _ r) (Paired.Tw t f)
theorem bA.gG (x:bA P w H h a o)(k:∀ b u,(b=a\/H b=some (.own a))->h.get? b=some u->h'.get? b=some u)
  (ho:∀ b,H b=some (.own a)->H' b=some (.own a)) (ht:∀ b xs,H b=some (.tup xs)->H' b=some (.tup xs)):bA P w H' h' a o:=by
 induction o with
 | lst xs=>obtain ⟨z,aC,n,r,e⟩:=x;exact ⟨z,aC,n,r,k _ _ (.inl rfl) e⟩
 | tup xs=>obtain ⟨z,aC,r,ob,e,c⟩:=x;exact ⟨⟨z.1,λob' e'=>by rw [k _ _ (.inl rfl) e] at e';cases e';exact z.2 _ e⟩,aC,r,ob,k _ _ (.inl rfl) e,c⟩
 | dK iF=>obtain ⟨z,y,vs,r,ob,es,ep,e,c⟩:=x;exact ⟨z,y,vs,r,ob,es,ep,k _ _ (.inl rfl) e,c⟩
 | dT iF=>
  obtain ⟨z,y,xs,r,ob,es,ep,e,c⟩:=x;exact ⟨z,y,xs,Paired.Tw r λp q z=>⟨z.1,ht _ _ z.2.1,z.2.2⟩,ob,es,ep,k _ _ (.inl rfl) e,c⟩
 | set S n=>obtain ⟨ob,es,ep,t,e,c⟩:=x;exact ⟨ob,es,ep,t,k _ _ (.inl rfl) e,c⟩
 | ins C dx fs=>
  obtain ⟨d,z,ne,e,mA,⟨od,es,ep,e2,c⟩,r⟩:=x;exact ⟨ho _ d,z,ne,k _ _ (.inl rfl) e,mA,⟨od,es,ep,k _ _ (.inr d) e2,c⟩,r⟩
 | own y=>obtain ⟨ob,e⟩:=x;exact ⟨ob,k _ _ (.inl rfl) e⟩
 | xd fs=>obtain ⟨mA,⟨od,es,ep,e,c⟩,r⟩:=x;exact ⟨mA,⟨od,es,ep,k _ _ (.inl rfl) e,c⟩,r⟩
 | VR lo hi=>obtain ⟨t,u,v,e⟩:=x;exact ⟨t,u,v,k _ _ (.inl rfl) e⟩
 | qz ob u ih=>obtain ⟨e,q⟩:=x;exact ⟨k _ _ (.inl rfl) e,ih q⟩
 | OH ps=>
  have e:h.get? a=some { cls:=.none,data:=.fields ps }:=x;show h'.get? a=some { cls:=.none,data:=.fields ps };exact k a _ (.inl rfl) e
 | met f y=>
  have e:h.get? a=some (PySem.W.methodObj (.ref f) (.ref y)):=x;show h'.get? a=some (PySem.W.methodObj (.ref f) (.ref y));exact k a _ (.inl rfl) e
 | ext φ=>obtain ⟨p,⟨o,e⟩,st⟩:=x;exact ⟨st _ _ p λo q=>k _ _ (.inl rfl) q,⟨o,k _ _ (.inl rfl) e⟩,st⟩
theorem gS.lt (x:gS P w H h)(e:H a=some o):a < h.objs.size:=(x a o e).lt
theorem gS.fresh (x:gS P w H h)(e:h.objs.size<=a):H a=none:=by
 cases q:H a with
 | none=>rfl
 | some u=>exact absurd (zq (x.lt q) e) (yM _)
theorem gS.kept (x:gS P w H h)(k:∀ b u,h.get? b=some u->h'.get? b=some u):gS P w H h':=λa o e=>
 (x a o e).gG (λb u _ q=>k b u q) (λ_ q=>q) λ_ _ q=>q
theorem gS.laid (x:gS P w H h)(k:∀ b u,h.get? b=some u->h'.get? b=some u)(hp:h.objs.size<=a)(new:bA P w (upd H a o) h' a o):gS P w (upd H a o) h':=λb u e=>by
 have hn:=x.fresh hp;by_cases hb:b=a
 ·subst hb;rw [xQ] at e;cases e;exact new
 ·rw [xj hb] at e;exact (x b u e).gG (λc v _ q=>k c v q) (λc q=>by rw [xj (xV q hn)];exact q) λc xs q=>by rw [xj (xV q hn)];exact q
end
def Rd (H:Hp)(a:Addr)(u:HO):Prop:=H a=some u\/∃ o,H a=some (.qz o u)
theorem Rd.ok {P:Program}{w:World}{H:Hp}{h:Heap}{a:Addr}{u:HO}(r:Rd H a u)(x:gS P w H h):bA P w H h a u:=by
 rcases r with r | ⟨o,r⟩
 ·exact x a u r
 ·obtain ⟨_,q⟩:=x a _ r;exact q
def WN:Option HO->Prop
 | some (.lst _)=>True
 | some (.dK _)=>True
 | some (.dT _)=>True
 | some (.set _ _)=>True
 | some (.ins _ _ _)=>True
 | some (.ext _)=>True
 | _=>False
section
variable {P:Program}{w:World}{H:Hp}{h h':Heap}{x e:Addr}{o':HO}
theorem gS.write (ok:gS P w H h)(mu:WN (H x))(he:e=x\/H e=some (.own x))(k:∀ b u,b≠e->h.get? b=some u->h'.get? b=some u)(Sf:∃ u,h'.get? e=some u)
  (new:bA P w (upd H x o') h' x o'):gS P w (upd H x o') h':=λb u q=>by
 have Tj:∀ c y,H c=some (.own y)->c≠x:=λc y r z=>by subst z;rw [r] at mu;exact mu
 have YN:∀ c xs,H c=some (.tup xs)->c≠x:=λc xs r z=>by subst z;rw [r] at mu;exact mu
 by_cases hb:b=x
 ·subst hb;rw [xQ] at q;cases q;exact new
 ·rw [xj hb] at q;by_cases Rh:b=e
  ·have q':H b=some (.own x):=by
    rcases he with z | z
    ·exact absurd (Rh.trans z) hb
    ·rw [Rh];exact z
   rw [q] at q';cases q';obtain ⟨v,hv⟩:=Sf;exact ⟨v,by rw [Rh];exact hv⟩
  ·refine (ok b u q).gG (λc v hc r=>k c v ?_ r) (λc r=>by rw [xj (Tj c b r)];exact r) λc xs r=>by rw [xj (YN c xs r)];exact r
   rcases hc with rfl | hc
   ·exact Rh
   ·rintro rfl;rcases he with z | z
    ·exact Tj c b hc z
    ·rw [hc] at z;cases z;exact hb rfl
end
structure Un (fs ex:List Addr) (H H':Hp) (h h':Heap):Prop where
 keep:∀ b o,h.get? b=some o->H b=none->b ∉ fs->b ∉ ex->h'.get? b=some o
 slot:∀ b o,h.get? b=some o->H b=none->b∈fs->b ∉ ex->∃ sl,h'.get? b=some { o with slots:=sl }
 free:∀ b o,h.get? b=some o->H b=none->b ∉ ex->H' b=none
 there:∀ b o,h.get? b=some o->b ∉ ex->∃ o',h'.get? b=some o'
 aS:∀ b xs,H b=some (.tup xs)->H' b=some (.tup xs)
 ju:∀ b o u,H b=some (.qz o u)->H' b=some (.qz o u)
 jO:∀ b ps,H b=some (.OH ps)->∃ more,H' b=some (.OH (ps++more))
section
variable {fs fs' ex ex':List Addr} {H H1 H2:Hp} {h h1 h2 h':Heap}{a x e:Addr}{o:HO}
theorem Un.any (u:Un fs ex H H1 h h1){b:Addr}{ob:Obj}(q:h.get? b=some ob)(n:H b=none)(hx:b ∉ ex):∃ sl,h1.get? b=some { ob with slots:=sl }:=by
 by_cases hb:b∈fs
 ·exact u.slot b ob q n hb hx
 ·exact ⟨ob.slots,u.keep b ob q n hb hx⟩
theorem Un.kept (k:∀ b u,h.get? b=some u->h'.get? b=some u):Un fs ex H H h h':=
 ⟨λb ob q _ _ _=>k b ob q,λb ob q _ _ _=>⟨ob.slots,k b ob q⟩,λ_ _ _ n _=>n,λb ob q _=>⟨ob,k b ob q⟩,λ_ _ q=>q,λ_ _ _ q=>q,λ_ ps q=>⟨#[],by rw [q];simp⟩⟩
theorem Un.refl:Un fs ex H H h h:=Un.kept λ_ _ q=>q
theorem Un.laid (k:∀ b u,h.get? b=some u->h'.get? b=some u)(hp:h.objs.size<=a)(hn:H a=none):Un fs ex H (upd H a o) h h' where
 keep:=λb u q _ _ _=>k b u q
 slot:=λb u q _ _ _=>⟨u.slots,k b u q⟩
 free:=λb u q n _=>by rw [xj (zt (zq (Heap.lt_size q) hp))];exact n
 there:=λb u q _=>⟨u,k b u q⟩
 aS:=λb xs q=>by rw [xj (xV q hn)];exact q
 ju:=λb u xs q=>by rw [xj (xV q hn)];exact q
 jO:=λb ps q=>⟨#[],by rw [xj (xV q hn),q];simp⟩
theorem Un.write (mu:WN (H x))(he:e=x\/H e=some (.own x))(k:∀ b u,b≠e->h.get? b=some u->h'.get? b=some u)(Sf:∃ u,h'.get? e=some u):Un fs ex H (upd H x o) h h':=by
 have hx:∀ b,H b=none->b≠x:=λb n z=>by subst z;rw [n] at mu;exact mu
 have hb:∀ b,H b=none->b≠e:=λb n z=>by
  subst z;rcases he with r | r
  ·exact hx b n r
  ·rw [n] at r;cases r
 have hm:∀ b u,H b=some u->¬ WN (some u)->b≠x:=λb u q nm z=>by subst z;rw [q] at mu;exact nm mu
 refine ⟨λb u q n _ _=>k b u (hb b n) q,λb u q n _ _=>⟨u.slots,k b u (hb b n) q⟩,λb u q n _=>by rw [xj (hx b n)];exact n,λb u q _=>?_,
  λb xs q=>by rw [xj (hm b _ q λz=>z)];exact q,λb u xs q=>by rw [xj (hm b _ q λz=>z)];exact q,λb ps q=>⟨#[],by rw [xj (hm b _ q λz=>z),q];simp⟩⟩
 by_cases Rh:b=e
 ·subst Rh;exact Sf
 ·exact ⟨u,k b u Rh q⟩
end
def VD (h:Heap)(H:Hp):List Addr:=(List.range h.objs.size).filter λa=>(H a).isSome
def nR (h:Heap)(H:Hp):Heap:=PySem.W.hideAll h (VD h H)
theorem Ju (h:Heap)(H:Hp):(nR h H).objs.size=h.objs.size:=PySem.W.hideAll_size _ _
theorem LI {h:Heap}{H:Hp}{b:Addr}{o:Obj}(e:h.get? b=some o)(n:H b=none):(nR h H).get? b=some o:=
 PySem.W.hideAll_get _ e λhm=>by
  have q:(H b).isSome=true:=(List.mem_filter.mp hm).2;rw [n] at q;simp at q
theorem NQ {h:Heap}{H:Hp}{b:Addr}{o:Obj}(e:(nR h H).get? b=some o):h.get? b=some o/\H b=none:=by
 have e':h.get? b=some o:=PySem.W.of_hideAll (VD h H) e;refine ⟨e',?_⟩;cases q:H b with
 | none=>rfl
 | some x=>
  have hm:b∈VD h H:=List.mem_filter.mpr ⟨yK.mpr (Heap.lt_size e'),by simp [q]⟩;have z:(nR h H).get? b=none:=PySem.W.hideAll_none (VD h H) hm;rw [z] at e;cases e
def gh (g h:Heap)(L:Addr):List (Addr×Obj):=(List.range h.objs.size).filterMap λa=>if a=L\/(g.get? a).isSome=true then none else (h.get? a).map λo=>(a,o)
theorem dZ {g h:Heap}{L a:Addr}{o:Obj}(h1:a≠L)(h2:g.get? a=none)(h3:h.get? a=some o):(a,o)∈gh g h L:=
 yy.mpr ⟨a,yK.mpr (Heap.lt_size h3),by simp [h1,h2,h3]⟩
theorem ko {g h:Heap}{L:Addr}{p:Addr×Obj}(hp:p∈gh g h L):p.1≠L/\g.get? p.1=none/\h.get? p.1=some p.2:=by
 obtain ⟨b,_,e⟩:=yy.mp hp;split at e
 ·cases e
 ·rename_i hn;cases q:h.get? b with
  | none=>rw [q] at e;simp at e
  | some u=>
   rw [q] at e;simp only [Option.map_some,Option.some.injEq] at e;subst e;refine ⟨λz=>hn (.inl z),?_,q⟩;show g.get? b=none;cases r:g.get? b with
   | none=>rfl
   | some v=>exact (hn (.inr (by simp [r]))).elim
theorem pV {g h:Heap}{L:Addr}:News g L h (gh g h L):=λp hp=>let ⟨a,b,c⟩:=ko hp;⟨c,a,b⟩
structure Mod (K:PySem.W.Frag) (mg:Str->Option Value) (base:Heap):Prop where
 Zw:K.In base
 glob:base.Ns mainGlobals mg
 blt:∃ mb,base.Ns builtinsNs mb/\∀ x:Str,x ≠ "__name__" -> mb x=bootBuiltins x
 nolimit:base.NoLimit
structure Cx where
 prog:Program
 w:World
 K:PySem.W.Frag
 mg:Str->Option Value
 base:Heap
 A:Around
 N:List Str
 c6:Shared
 JJ:Hp
 env:Env
 outer:List Env
 stack:List Env
 ex:List Addr
 fn:Str->Bool
 calm:Bool
 pn:List (Addr×Obj)
 xe:Value->Shared->Prop
def Jy (l:List Env):List Addr:=l.filterMap (·.frame)
abbrev Cx.fs (X:Cx):List Addr:=Jy X.outer
def WK (sc:Scope)(x:Str):Prop:=sc.names.lookup x=some .local\/sc.names.lookup x=some .cell\/sc.names.lookup x=some .free
def Loc (sc:Scope)(x:Str):Prop:=sc.names.lookup x=some .local\/sc.names.lookup x=some .cell
def Look (env:Env)(h:Heap)(m:Str->Option Value)(x:Str)(u:Value):Prop:=
 (env.kindOf x=some .local/\m x=some u)\/((env.kindOf x=some .cell\/env.kindOf x=some .free)/\∃ c,env.cells.lookup x=some c/\h.IsCell c (some u))
structure Cx.Ok (X:Cx):Prop where
 mod:Mod X.K X.mg X.base
 kind:X.env.scope.kind=.function
 glob:X.env.globals=mainGlobals
 blt:X.env.builtins=builtinsNs
 above:X.c6.heap.objs.size<=X.env.locals
 inj:∀ x y c,X.env.cells.lookup x=some c->X.env.cells.lookup y=some c->x=y
 has:∀ x,(X.env.kindOf x=some .cell\/X.env.kindOf x=some .free)->∃ c,X.env.cells.lookup x=some c
 Vh:∀ x c,X.fn x=true->X.env.cells.lookup x=some c->X.c6.heap.objs.size<=c
 hd:X.calm=true->X.A.handled=none
 frames:X.A.frames=some X.stack
 VJ:X.stack=X.outer\/(X.stack=X.env::X.outer/\X.env.frame=some X.env.locals)
 exf:∀ b∈X.ex,b≠X.env.locals/\∀ x c,X.env.cells.lookup x=some c->c≠b
 bs:∀ b o,X.base.get? b=some o->X.c6.heap.get? b=some o/\X.JJ b=none
 Mk:X.base.objs.size<=X.c6.heap.objs.size
 Jb:∀ b o,X.base.get? b=some o->b ∉ X.ex
 Oh:∀ b∈X.ex,b ∉ X.fs
 kP:X.c6.heap.FunFrames X.base X.outer
 Sj:∀ b∈X.fs,X.JJ b=none
structure Inv (X:Cx) (ai:List (Addr×Obj)) (σ:List (Option V)) (H:Hp) (s:Shared):Prop where
 ok:X.Ok
 os:s.os=X.c6.os
 bare:AllBare s.gens
 base:Un X.fs X.ex X.JJ H X.c6.heap s.heap
 loc:∃ m,s.heap.Ns X.env.locals m/\∀ (i:Nat) (x:Str) (v:V),X.N[i]?=some x->σ[i]?=some (some v)->WK X.env.scope x->∃ u,RelV v u/\Look X.env s.heap m x u
 cell:∀ x c,X.env.cells.lookup x=some c->∃ v,s.heap.IsCell c v
 free:H X.env.locals=none
 fU:∀ x c,X.env.cells.lookup x=some c->H c=none
 pin:∀ p∈X.pn++ai,s.heap.get? p.1=some p.2/\H p.1=none/\p.1≠X.env.locals/\p.1 ∉ X.fs/\∀ v,p.2.data≠.cell v
 bh:gS X.prog X.w H s.heap
 len:σ.length=X.N.length
section
variable {X:Cx}{ai:List (Addr×Obj)}{σ:List (Option V)}{H H':Hp}{s:Shared}{h':Heap}
theorem Cx.Ok.YQ (ok:X.Ok){b:Addr}{o:Obj}(e:X.base.get? b=some o):b ∉ X.fs:=λhb=>by
 have:=(ok.kP.mem hb).1;rw [e] at this;cases this
theorem Inv.bs (I:Inv X ai σ H s):∀ b o,X.base.get? b=some o->s.heap.get? b=some o/\H b=none:=λb o e=>
 ⟨I.base.keep b o (I.ok.bs b o e).1 (I.ok.bs b o e).2 (I.ok.YQ e) (I.ok.Jb b o e),I.base.free b o (I.ok.bs b o e).1 (I.ok.bs b o e).2 (I.ok.Jb b o e)⟩
theorem Inv.bk (I:Inv X ai σ H s):∀ b o,X.base.get? b=some o->s.heap.get? b=some o:=λb o e=>(I.bs b o e).1
theorem Inv.mod (I:Inv X ai σ H s):Mod X.K X.mg X.base:=I.ok.mod
theorem Inv.p8 (I:Inv X ai σ H s):X.K.In s.heap:=I.ok.mod.Zw.keeps I.bk
theorem Inv.fr (I:Inv X ai σ H s):∃ m,Fr X.base X.env.locals s.heap m:=
 let ⟨m,hn,_⟩:=I.loc
 ⟨m,hn,I.bk,yG I.ok.Mk I.ok.above⟩
theorem Inv.lt (I:Inv X ai σ H s):X.env.locals < s.heap.objs.size:=let ⟨_,hn,_⟩:=I.loc;hn.lt
theorem Inv.sz (I:Inv X ai σ H s):X.c6.heap.objs.size<=s.heap.objs.size:=yG I.ok.above (xA I.lt)
theorem Inv.QC (I:Inv X ai σ H s){a:Addr}(h:s.heap.objs.size<=a):a ∉ X.fs:=λhb=>by
 obtain ⟨_,o,ho,_⟩:=I.ok.kP.mem hb;exact absurd (zq (Heap.lt_size ho) (yG I.sz h)) (yM _)
theorem Inv.Rt (I:Inv X ai σ H s):∀ x c,X.env.cells.lookup x=some c->c≠X.env.locals:=λx c e z=>by
 obtain ⟨v,o,ho,hd⟩:=I.cell x c e;obtain ⟨m,⟨o',es,ep,tK,O7,_⟩,_⟩:=I.loc;rw [z,tK] at ho;cases ho;rw [O7] at hd;cases hd
theorem Inv.kP (I:Inv X ai σ H s):s.heap.FunFrames X.base X.outer:=by
 have all:∀ (l:List Env),(∀ b∈Jy l,b∈X.fs)->X.c6.heap.FunFrames X.base l->s.heap.FunFrames X.base l:=by
  intro l;induction l with
  | nil=>intro _ _;trivial
  | cons env r ih=>
   intro hs hl;obtain ⟨hk,⟨L,o,hf,hn,ho,hd⟩,hr⟩:=hl;have hL:L∈X.fs:=hs L (by unfold Jy;rw [xE,hf];exact zo);obtain ⟨sl,e⟩:=I.base.slot L o ho (I.ok.Sj L hL) hL λz=>I.ok.Oh L z hL;exact ⟨hk,⟨L,_,hf,hn,e,hd⟩,ih (λb hb=>hs b (by unfold Jy;rw [xE,hf];exact zc _ hb)) hr⟩
 exact all X.outer (λ_ hb=>hb) I.ok.kP
theorem Inv.stack (I:Inv X ai σ H s):s.heap.FunFrames X.base X.stack:=by
 rcases I.ok.VJ with e | ⟨e,hf⟩
 ·rw [e];exact I.kP
 ·rw [e];obtain ⟨m,hn,_⟩:=I.loc;refine .cons (by rw [I.ok.kind];decide) hf hn ?_ I.kP;exact Heap.get?_none_of_le (yG I.ok.Mk I.ok.above)
theorem Inv.eZ (I:Inv X ai σ H s):∀ b∈Jy X.stack,b∈X.env.locals::X.fs:=λb hb=>by
 rcases I.ok.VJ with e | ⟨e,hf⟩
 ·rw [e] at hb;exact zc _ hb
 ·rw [e] at hb;unfold Jy at hb;rw [xE,hf] at hb;exact hb
theorem Inv.nA (I:Inv X ai σ H s):∀ b∈Jy X.stack,H b=none:=λb hb=>by
 rcases zG.mp (I.eZ b hb) with e | hb
 ·rw [e];exact I.free
 ·obtain ⟨_,o,ho,_⟩:=I.ok.kP.mem hb;exact I.base.free b o ho (I.ok.Sj b hb) λz=>I.ok.Oh b z hb
theorem Inv.step {g':Array GenState}{t':Nat}{d':Drawn}{ch:List Addr}(I:Inv X ai σ H s)
  (MJ:∀ b∈ch,(b∈X.ex\/X.c6.heap.objs.size<=b)/\b≠X.env.locals/\(∀ x c,X.env.cells.lookup x=some c->c≠b)/\∀ p∈X.pn++ai,p.1≠b)
  (keep:∀ b o,b≠X.env.locals->b ∉ X.fs->b ∉ ch->s.heap.get? b=some o->H b=none->h'.get? b=some o)
  (slot:∀ b o,b≠X.env.locals->b∈X.fs->b ∉ ch->s.heap.get? b=some o->H b=none->∃ sl,h'.get? b=some { o with slots:=sl }) (free:∀ b o,b ∉ ch->s.heap.get? b=some o->H b=none->H' b=none)
  (there:∀ b o,b ∉ ch->s.heap.get? b=some o->∃ o',h'.get? b=some o')
  (aS:∀ b xs,H b=some (.tup xs)->H' b=some (.tup xs)) (ju:∀ b o u,H b=some (.qz o u)->H' b=some (.qz o u)) (jO:∀ b ps,H b=some (.OH ps)->∃ more,H' b=some (.OH (ps++more)))
  (ns:∀ m,s.heap.Ns X.env.locals m->h'.Ns X.env.locals m) (bh:gS X.prog X.w H' h') (hg:AllBare g') :
  Inv X ai σ H' { s with heap:=h',gens:=g',drawn:=d',toks:=t' }:=by
 have neL:∀ b o,X.c6.heap.get? b=some o->b≠X.env.locals:=λb o e=>zt (zq (Heap.lt_size e) I.ok.above);have V3:∀ b o,X.c6.heap.get? b=some o->b ∉ X.ex->b ∉ ch:=λb o e hx hb=>by
  rcases (MJ b hb).1 with z | z
  ·exact hx z
  ·exact absurd (zq (Heap.lt_size e) z) (yM _)
 have cellK:∀ x c,X.env.cells.lookup x=some c->∀ v,s.heap.IsCell c v->h'.IsCell c v:=λx c e v ⟨o,ho,hd⟩=>by
  have Tq:c ∉ ch:=λz=>(MJ c z).2.2.1 x c e rfl;by_cases hc:c∈X.fs
  ·obtain ⟨sl,q⟩:=slot c o (I.Rt x c e) hc Tq ho (I.fU x c e);exact ⟨_,q,hd⟩
  ·exact ⟨o,keep c o (I.Rt x c e) hc Tq ho (I.fU x c e),hd⟩
 refine ⟨I.ok,I.os,hg,⟨λb o e n hb hx=>?_,λb o e n hb hx=>?_,λb o e n hx=>?_,λb o e hx=>?_,λb xs e=>aS b xs (I.base.aS b xs e),λb o xs e=>ju b o xs (I.base.ju b o xs e),λb ps e=>?_⟩,?_,λx c e=>?_,?_,λx c e=>?_,λp hp=>?_,bh,I.len⟩
 ·exact keep b o (neL b o e) hb (V3 b o e hx) (I.base.keep b o e n hb hx) (I.base.free b o e n hx)
 ·obtain ⟨sl,e1⟩:=I.base.slot b o e n hb hx;obtain ⟨sl',e2⟩:=slot b _ (neL b o e) hb (V3 b o e hx) e1 (I.base.free b o e n hx);exact ⟨sl',e2⟩
 ·obtain ⟨o',e1⟩:=I.base.there b o e hx;exact free b o' (V3 b o e hx) e1 (I.base.free b o e n hx)
 ·obtain ⟨o',e1⟩:=I.base.there b o e hx;exact there b o' (V3 b o e hx) e1
 ·obtain ⟨m1,e1⟩:=I.base.jO b ps e;obtain ⟨m2,e2⟩:=jO b _ e1;exact ⟨m1++m2,by rw [e2,Array.append_assoc]⟩
 ·obtain ⟨m,hn,hl⟩:=I.loc;refine ⟨m,ns m hn,λi x v e1 e2 e3=>?_⟩;obtain ⟨u,r,l⟩:=hl i x v e1 e2 e3;refine ⟨u,r,?_⟩;rcases l with l | ⟨k,c,e,z⟩
  ·exact .inl l
  ·exact .inr ⟨k,c,e,cellK x c e _ z⟩
 ·obtain ⟨v,z⟩:=I.cell x c e;exact ⟨v,cellK x c e v z⟩
 ·obtain ⟨m,⟨o,_,_,ho,_⟩,_⟩:=I.loc;exact free _ o (λz=>(MJ _ z).2.1 rfl) ho I.free
 ·obtain ⟨v,o,ho,hd⟩:=I.cell x c e;exact free c o (λz=>(MJ c z).2.2.1 x c e rfl) ho (I.fU x c e)
 ·obtain ⟨e,n,ne,nf,d⟩:=I.pin p hp;have Tq:p.1 ∉ ch:=λz=>(MJ p.1 z).2.2.2 p hp rfl;exact ⟨keep p.1 p.2 ne nf Tq e n,free p.1 p.2 Tq e n,ne,nf,d⟩
theorem Inv.un {t':Nat}(I:Inv X ai σ H s)(u:Un X.fs [] H H' s.heap h')(bh:gS X.prog X.w H' h'):Inv X ai σ H' { s with heap:=h',toks:=t' }:=by
 obtain ⟨m,⟨o,es,ep,ho,r⟩,_⟩:=id I.loc;obtain ⟨sl,hL⟩:=u.any ho I.free (by simp);exact I.step (g':=s.gens) (d':=s.drawn) (ch:=[]) (λ_ z=>nomatch z) (λb o _ hb _ e n=>u.keep b o e n hb (by simp)) (λb o _ hb _ e n=>u.slot b o e n hb (by simp)) (λb o _ e n=>u.free b o e n (by simp)) (λb o _ e=>u.there b o e (by simp)) u.aS u.ju u.jO (λm' hm=>by
  obtain ⟨o',gO,Ol,tK,r'⟩:=hm;rw [ho] at tK;cases tK;exact ⟨_,gO,Ol,hL,r'⟩) bh I.bare
theorem Inv.call {g':Array GenState}{t':Nat}{d':Drawn}{ch:List Addr}(I:Inv X ai σ H s)(u:Un (Jy X.stack) ch H H' s.heap h')(bh:gS X.prog X.w H' h')(hg:AllBare g')
  (MJ:∀ b∈ch,(b∈X.ex\/X.c6.heap.objs.size<=b)/\b≠X.env.locals/\(∀ x c,X.env.cells.lookup x=some c->c≠b)/\∀ p∈X.pn++ai,p.1≠b) :
  Inv X ai σ H' { s with heap:=h',gens:=g',drawn:=d',toks:=t' }:=by
 obtain ⟨m,⟨o,es,ep,ho,r⟩,_⟩:=id I.loc;obtain ⟨sl,hL⟩:=u.any ho I.free λz=>(MJ _ z).2.1 rfl;exact I.step (ch:=ch) MJ (λb o hL hb hc e n=>u.keep b o e n (λz=>(zG.mp (I.eZ b z)).elim hL hb) hc) (λb o _ _ hc e n=>u.any e n hc) (λb o hc e n=>u.free b o e n hc) (λb o hc e=>u.there b o e hc) u.aS u.ju u.jO (λm' hm=>by
  obtain ⟨o',gO,Ol,tK,r'⟩:=hm;rw [ho] at tK;cases tK;exact ⟨_,gO,Ol,hL,r'⟩) bh hg
theorem Inv.turned {t':Nat}{it:Addr}(I:Inv X ai σ H s)(k:∀ b o,b≠it->s.heap.get? b=some o->h'.get? b=some o)(hn:H it=none)(hL:it≠X.env.locals)
  (h1:it∈X.ex\/X.c6.heap.objs.size<=it) (h2:∀ x c,X.env.cells.lookup x=some c->c≠it) (h3:∀ p∈X.pn++ai,p.1≠it):Inv X ai σ H { s with heap:=h',toks:=t' }:=by
 have nit:∀ b u,H b=some u->b≠it:=λb u e z=>by rw [z,hn] at e;cases e
 refine I.step (g':=s.gens) (d':=s.drawn) (ch:=[it]) (λb hb=>?_) (λb o _ _ hc e _=>k b o (λz=>hc (by simp [z])) e) (λb o _ _ hc e _=>⟨o.slots,k b o (λz=>hc (by simp [z])) e⟩) (λ_ _ _ _ n=>n)
  (λb o hc e=>⟨o,k b o (λz=>hc (by simp [z])) e⟩) (λ_ _ e=>e) (λ_ _ _ e=>e) (λb ps e=>⟨#[],by rw [e];simp⟩) (λm hm=>?_) (λb u e=>?_) I.bare
 ·have e:b=it:=by simpa using hb
  subst e;exact ⟨h1,hL,h2,h3⟩
 ·obtain ⟨o,es,ep,ho,r⟩:=hm;exact ⟨o,es,ep,k _ o (Ne.symm hL) ho,r⟩
 ·refine (I.bh b u e).gG (λc v hc q=>k c v ?_ q) (λ_ q=>q) λ_ _ q=>q;rcases hc with z | z
  ·rw [z];exact nit b u e
  ·exact nit c _ z
theorem Inv.tok (I:Inv X ai σ H s)(t:Nat):Inv X ai σ H { s with toks:=t }:=I.un (h':=s.heap) (t':=t) Un.refl I.bh
theorem Inv.kept {t':Nat}(I:Inv X ai σ H s)(k:∀ b u,s.heap.get? b=some u->h'.get? b=some u):Inv X ai σ H { s with heap:=h',toks:=t' }:=I.un (Un.kept k) (I.bh.kept k)
theorem Inv.laid {a:Addr}{o:HO}{t':Nat}(I:Inv X ai σ H s)(k:∀ b u,s.heap.get? b=some u->h'.get? b=some u)(hp:s.heap.objs.size<=a)(new:bA X.prog X.w (upd H a o) h' a o) :
  Inv X ai σ (upd H a o) { s with heap:=h',toks:=t' }:=I.un (Un.laid k hp (I.bh.fresh hp)) (I.bh.laid k hp new)
theorem Inv.write {x e:Addr}{o:HO}{t':Nat}(I:Inv X ai σ H s)(mu:WN (H x))(he:e=x\/H e=some (.own x))(k:∀ b u,b≠e->s.heap.get? b=some u->h'.get? b=some u)(Sf:∃ u,h'.get? e=some u)
  (new:bA X.prog X.w (upd H x o) h' x o):Inv X ai σ (upd H x o) { s with heap:=h',toks:=t' }:=I.un (Un.write mu he k Sf) (I.bh.write mu he k Sf new)
theorem Inv.dY {pJ:List (Addr×Obj)}(I:Inv X ai σ H s)(h:∀ p∈pJ,s.heap.get? p.1=some p.2/\H p.1=none/\p.1≠X.env.locals/\p.1 ∉ X.fs/\∀ v,p.2.data≠.cell v):Inv X pJ σ H s:=
 ⟨I.ok,I.os,I.bare,I.base,I.loc,I.cell,I.free,I.fU,λp hp=>(zV.mp hp).elim (λz=>I.pin p (yh _ z)) (h p),I.bh,I.len⟩
theorem pU {N:List Str}(hN:N.Nodup){i j:Nat}{x:Str}(a:N[i]?=some x)(b:N[j]?=some x):i=j:=by obtain ⟨h1,e1⟩:=zQ.mp a;obtain ⟨h2,e2⟩:=zQ.mp b;exact (List.getElem_inj hN).mp (e1.trans e2.symm)
def Jf (sc:Scope)(x:Str):Bool:=match sc.names.lookup x with | some .local=>true | some .cell=>true | _=>false
theorem jG {sc:Scope}{x:Str}(h:Jf sc x=true):Loc sc x:=by
 unfold Jf at h;unfold Loc
 revert h
 cases sc.names.lookup x with
 | none=>intro h;cases h
 | some k=>cases k <;> intro h <;> first | exact .inl rfl | exact .inr rfl | cases h
def ji (X:Cx)(x:Str):Bool:=X.fn x || (match X.env.scope.names.lookup x with | some .local=>true | _=>false)
theorem LW {X:Cx}{x:Str}(h:ji X x=true):X.fn x=true\/X.env.scope.names.lookup x=some .local:=by
 unfold ji at h;cases e:X.fn x with
 | true=>exact .inl rfl
 | false=>
  rw [e,Bool.false_or] at h
  revert h
  cases X.env.scope.names.lookup x with
  | none=>intro h;cases h
  | some k=>cases k <;> intro h <;> first | exact .inr rfl | cases h
def Pu (sc:Scope)(x:Str):Bool:=match sc.names.lookup x with | some .local=>true | some .cell=>true | some .free=>true | _=>false
theorem MS {sc:Scope}{x:Str}(h:Pu sc x=true):WK sc x:=by
 unfold Pu at h;unfold WK
 revert h
 cases sc.names.lookup x with
 | none=>intro h;cases h
 | some k=>cases k <;> intro h <;> first | exact .inl rfl | exact .inr (.inl rfl) | exact .inr (.inr rfl) | cases h
theorem vL {M:Model}{A:Around}{E:Value->Shared->Prop}{i:Nat}{x:Str}{v:V}{u:Value}{Q:Unit->Shared->Prop}(I:Inv X ai σ H s)(hN:X.N.Nodup)(hi:X.N[i]?=some x)(hx:Loc X.env.scope x)(r:RelV v u)
  (h:∀ s',Inv X ai (σ.set i (some v)) H s'->(∃ a,Heap.SameBut a s.heap s'.heap/\(a=X.env.locals\/X.env.cells.lookup x=some a))->Q () s') (hf:ji X x=true:=by rfl):wpAny M A (storeName X.env x u) Q E s:=by
 have hf:=LW hf;obtain ⟨m,hn,hl⟩:=id I.loc;have aar:(X.env.scope.kind == .class || (X.env.scope.kind == .module && X.env.locals != X.env.globals))=false:=by rw [I.ok.kind];rfl
 have UO:i < σ.length:=by rw [I.len];exact (zQ.mp hi).1
 have Rt:=I.Rt;have tracked:∀ {a:Addr}{h':Heap},(∃ o,s.heap.get? a=some o/\H a=none)->Heap.SameBut a s.heap h'->gS X.prog X.w H h':=λ{a h'} ha hs b ob e=>by
  obtain ⟨_,_,O5⟩:=ha;refine (I.bh b ob e).gG (λc w' hc q=>(hs.2 c ?_).trans q) (λ_ q=>q) λ_ _ q=>q;rintro rfl;rcases hc with rfl | hc
  ·rw [O5] at e;cases e
  ·rw [O5] at hc;cases hc
 rcases hx with hk | hk
 ·refine wpAny_storeName_local hk hn (λh' hn' hs=>?_) aar;obtain ⟨oL,_,_,hoL,_⟩:=id hn;refine h _ ⟨I.ok,I.os,I.bare,⟨λb o e n hb hx=>?_,λb o e n hb hx=>?_,I.base.free,λb o e hx=>?_,I.base.aS,I.base.ju,I.base.jO⟩,⟨_,hn',λj y v' e1 e2 e3=>?_⟩,λy c e=>?_,I.free,I.fU,λp hp=>?_,tracked ⟨oL,hoL,I.free⟩ hs,by simpa using I.len⟩ ⟨_,hs,.inl rfl⟩
  ·exact (hs.2 b (zt (zq (Heap.lt_size e) I.ok.above))).trans (I.base.keep b o e n hb hx)
  ·obtain ⟨sl,e1⟩:=I.base.slot b o e n hb hx;exact ⟨sl,(hs.2 b (zt (zq (Heap.lt_size e) I.ok.above))).trans e1⟩
  ·obtain ⟨o',e1⟩:=I.base.there b o e hx;exact ⟨o',(hs.2 b (zt (zq (Heap.lt_size e) I.ok.above))).trans e1⟩
  ·by_cases hj:j=i
   ·subst hj;rw [hi] at e1;cases e1;rw [List.getElem?_set_self UO] at e2;cases e2;exact ⟨u,r,.inl ⟨hk,by simp⟩⟩
   ·rw [List.getElem?_set_ne (Ne.symm hj)] at e2;obtain ⟨u',r',q⟩:=hl j y v' e1 e2 e3;refine ⟨u',r',?_⟩;rcases q with ⟨k,e⟩ | ⟨k,c,e,z⟩
    ·refine .inl ⟨k,?_⟩;have:y≠x:=λe=>hj (pU hN e1 (e ▸ hi));simp [this,e]
    ·exact .inr ⟨k,c,e,z.sameBut hs (Rt y c e)⟩
  ·obtain ⟨w',z⟩:=I.cell y c e;exact ⟨w',z.sameBut hs (Rt y c e)⟩
  ·obtain ⟨e,n,ne,nf,d⟩:=I.pin p hp;exact ⟨(hs.2 p.1 ne).trans e,n,ne,nf,d⟩
 ·have hfn:X.fn x=true:=by
   rcases hf with z | z
   ·exact z
   ·rw [z] at hk;cases hk
  obtain ⟨c,hc⟩:=I.ok.has x (.inl hk);obtain ⟨w',z⟩:=I.cell x c hc;refine wpAny_storeName_cell I.ok.kind hk hc z (λh' US hs=>?_);obtain ⟨oc,hoc,aaa⟩:=id z;refine h { s with heap:=h' } ⟨I.ok,I.os,I.bare,⟨λb o e n hb hx=>?_,λb o e n hb hx=>?_,I.base.free,λb o e hx=>?_,I.base.aS,I.base.ju,I.base.jO⟩,⟨m,hn.sameBut hs (Ne.symm (Rt x c hc)),λj y v' e1 e2 e3=>?_⟩,λy c' e=>?_,I.free,I.fU,λp hp=>?_,tracked ⟨oc,hoc,I.fU x c hc⟩ hs,by simpa using I.len⟩ ⟨c,hs,.inr hc⟩
  ·exact (hs.2 b (zt (zq (Heap.lt_size e) (I.ok.Vh x c hfn hc)))).trans (I.base.keep b o e n hb hx)
  ·obtain ⟨sl,e1⟩:=I.base.slot b o e n hb hx;exact ⟨sl,(hs.2 b (zt (zq (Heap.lt_size e) (I.ok.Vh x c hfn hc)))).trans e1⟩
  ·obtain ⟨o',e1⟩:=I.base.there b o e hx;exact ⟨o',(hs.2 b (zt (zq (Heap.lt_size e) (I.ok.Vh x c hfn hc)))).trans e1⟩
  ·by_cases hj:j=i
   ·subst hj;rw [hi] at e1;cases e1;rw [List.getElem?_set_self UO] at e2;cases e2;exact ⟨u,r,.inr ⟨.inl hk,c,hc,US⟩⟩
   ·rw [List.getElem?_set_ne (Ne.symm hj)] at e2;obtain ⟨u',r',q⟩:=hl j y v' e1 e2 e3;refine ⟨u',r',?_⟩;rcases q with q | ⟨k,c',e,z'⟩
    ·exact .inl q
    ·refine .inr ⟨k,c',e,z'.sameBut hs ?_⟩;rintro rfl;exact hj (pU hN e1 (I.ok.inj _ _ _ e hc ▸ hi))
  ·by_cases Sg:c'=c
   ·subst Sg;exact ⟨_,US⟩
   ·obtain ⟨w2,z2⟩:=I.cell y c' e;exact ⟨w2,z2.sameBut hs Sg⟩
  ·obtain ⟨e,n,ne,nf,d⟩:=I.pin p hp;refine ⟨(hs.2 p.1 ?_).trans e,n,ne,nf,d⟩;intro q;rw [q,hoc] at e;have q':oc=p.2:=Option.some.inj e;exact d w' (by rw [<-q'];exact aaa)
theorem ic {M:Model}{A:Around}{E:Value->Shared->Prop}{i:Nat}{x:Str}{v:V}{u:Value}{Q:Unit->Shared->Prop}(I:Inv X ai σ H s)(hN:X.N.Nodup)(hi:X.N[i]?=some x)(hx:Loc X.env.scope x)(r:RelV v u)
  (h:∀ s',Inv X ai (σ.set i (some v)) H s'->Q () s') (hf:ji X x=true:=by rfl):wpAny M A (storeName X.env x u) Q E s:=
 vL I hN hi hx r (λs' I' _=>h s' I') hf
theorem Inv.Mj {s':Shared}{ch:List Addr}(I:Inv X ai σ H s)(ho:s'.os=s.os)(u:Un (Jy X.stack) ch H H' s.heap s'.heap)(bh:gS X.prog X.w H' s'.heap)(hg:AllBare s'.gens)
  (MJ:∀ b∈ch,(b∈X.ex\/X.c6.heap.objs.size<=b)/\b≠X.env.locals/\(∀ x c,X.env.cells.lookup x=some c->c≠b)/\∀ p∈X.pn++ai,p.1≠b):Inv X ai σ H' s':=by
 obtain ⟨h',g',d',t',o'⟩:=s';have e:o'=s.os:=ho;subst e;exact I.call (g':=g') (t':=t') (d':=d') u bh hg MJ
end
abbrev XK:=Value->Option Addr->Hp->Prop
abbrev St:=List (Option V)
abbrev VK:=V->Hp->Prop
abbrev TE:=St->Hp->VK->Prop
abbrev TT:=St->Hp->(Bool->Hp->Prop)->Prop
abbrev TA:=St->Hp->(List V->Hp->Prop)->Prop
structure Ends where
 nx:St->Hp->Prop
 rt:VK
 bk:St->Hp->Prop:=λ_ _=>False
 ct:St->Hp->Prop:=λ_ _=>False
abbrev Ends.go (D:Ends)(n:St->Hp->Prop):Ends:={ D with nx:=n }
abbrev Ends.lp (D:Ends)(n:St->Hp->Prop):Ends:={ D with nx:=n,ct:=n,bk:=D.nx }
abbrev TS:=Ends->St->Hp->Prop
def EP (X:Cx)(ai:List (Addr×Obj))(σ:St)(Q:VK)(u:Value)(s':Shared):Prop:=∃ v H',Inv X ai σ H' s'/\RelV v u/\Q v H'
def TP (X:Cx)(ai:List (Addr×Obj))(σ:St)(Q:Bool->Hp->Prop)(b:Bool)(s':Shared):Prop:=∃ H',Inv X ai σ H' s'/\Q b H'
def AP (X:Cx)(ai:List (Addr×Obj))(σ:St)(Q:List V->Hp->Prop)(us:List Value)(s':Shared):Prop:=∃ vs H',Inv X ai σ H' s'/\Vals vs us/\Q vs H'
def SP (X:Cx)(ai:List (Addr×Obj))(D:Ends)(f:Flow)(s':Shared):Prop:=
 match f with
 | .next=>∃ bK H',Inv X ai bK H' s'/\D.nx bK H'
 | .brk=>∃ bK H',Inv X ai bK H' s'/\D.bk bK H'
 | .cont=>∃ bK H',Inv X ai bK H' s'/\D.ct bK H'
 | .ret u=>∃ v bK H',Inv X ai bK H' s'/\RelV v u/\D.rt v H'
def PE (X:Cx)(e:Expr)(t:TE):Prop:=
 ∀ (ai:List (Addr×Obj)) (s:Shared) (σ:St) (H:Hp) (Q:VK),Inv X ai σ H s->t σ H Q->wpAny (model X.prog X.w) X.A (eval e X.env) (EP X ai σ Q) X.xe s
def PT (X:Cx)(e:Expr)(t:TT):Prop:=
 ∀ (ai:List (Addr×Obj)) (s:Shared) (σ:St) (H:Hp) (Q:Bool->Hp->Prop),Inv X ai σ H s->t σ H Q->wpAny (model X.prog X.w) X.A (isTrue e X.env (eval e X.env)) (TP X ai σ Q) X.xe s
def PW (X:Cx)(e:Expr)(t:TT):Prop:=
 ∀ (whole:Sem Value) (ai:List (Addr×Obj)) (s:Shared) (σ:St) (H:Hp) (Q:Bool->Hp->Prop),Inv X ai σ H s->t σ H Q->wpAny (model X.prog X.w) X.A (isTrue e X.env whole) (TP X ai σ Q) X.xe s
theorem PW.pt {X:Cx}{e:Expr}{t:TT}(h:PW X e t):PT X e t:=h _
def PA (X:Cx)(es:List Expr)(t:TA):Prop:=
 ∀ (pos:Pos) (ai:List (Addr×Obj)) (s:Shared) (σ:St) (H:Hp) (Q:List V->Hp->Prop),Inv X ai σ H s->t σ H Q->wpAny (model X.prog X.w) X.A (spliced (backTo pos (starEach es X.env))) (AP X ai σ Q) X.xe s
def PS (X:Cx)(st:Stmt)(t:TS):Prop:=
 ∀ (ai:List (Addr×Obj)) (s:Shared) (σ:St) (H:Hp) (D:Ends),Inv X ai σ H s->t D σ H->wpAny (model X.prog X.w) X.A (exec st X.env) (SP X ai D) X.xe s
def oE (X:Cx)(st:List Stmt)(t:TS):Prop:=
 ∀ (ai:List (Addr×Obj)) (s:Shared) (σ:St) (H:Hp) (D:Ends),Inv X ai σ H s->t D σ H->wpAny (model X.prog X.w) X.A (execs st X.env) (SP X ai D) X.xe s
theorem aZ {α:Type}{t:Sem α}{Q Q':α->Shared->Prop}{M:Model}{A:Around}{E:Value->Shared->Prop}{s:Shared}(h:wpAny M A t Q E s)(hQ:∀ a s,Q a s->Q' a s):wpAny M A t Q' E s:=wpAny_mono h hQ λ_ _ x=>x
section
variable {X:Cx}
def Kf (i:Nat):TE:=fun σ H Q=>∃ v,σ[i]?=some (some v)/\Q v H
def tC (v:V):TE:=λ_ H Q=>Q v H
theorem Qu {i:Nat}{x:Str}{pos:Pos}(hN:X.N[i]?=some x)(hv:WK X.env.scope x)(hd:(x == ("__debug__" : Str))=false:=by decide)(LJ:(x == ("__classdict__" : Str))=false:=by decide):PE X (.Name x pos) (Kf i):=by
 intro ai s σ H Q I h;obtain ⟨v,e,h⟩:=h;obtain ⟨m,hn,hl⟩:=I.loc;obtain ⟨u,r,l⟩:=hl i x v hN e hv;have fin:EP X ai σ Q u s:=⟨v,H,I,r,h⟩;rcases l with ⟨hk,hm⟩ | ⟨hk,c,hc,O8⟩
 ·exact wpAny_Name (wpAny_loadName_local I.ok.kind hk hn hm fin) hd
 ·rcases hk with hk | hk
  ·exact wpAny_Name (wpAny_loadName_cell I.ok.kind hk hc O8 fin) hd
  ·exact wpAny_Name (wpAny_loadName_free I.ok.kind hk hc O8 fin LJ) hd
theorem xS {i j pos}:PE X (.Constant (.int i) j pos) (tC (.int i)):=λ_ _ _ H _ I h=>wpAny_Constant_int ⟨.int i,H,I.tok _,⟨_,rfl⟩,h⟩
theorem qL {b j pos}:PE X (.Constant (.bool b) j pos) (tC (.bl b)):=λ_ _ _ H _ I h=>Constant_bool ⟨.bl b,H,I,rfl,h⟩
theorem qi {j pos}:PE X (.Constant .none j pos) (tC .bF):=λ_ _ _ H _ I h=>Constant_none ⟨.bF,H,I,rfl,h⟩
theorem KZ {x j pos}:PE X (.Constant (.str x) j pos) (tC (.str x)):=λ_ _ _ H _ I h=>Calls.Constant_str ⟨.str x,H,I.tok _,⟨_,rfl⟩,h⟩
def Gl (X:Cx)(x:Str):Prop:=X.env.kindOf x=some .globalImplicit
theorem NZ {E:Value->Shared->Prop}{ai:List (Addr×Obj)}{s:Shared}{σ:St}{H:Hp}{x:Str}{u:Value}{pos:Pos}{Q:Value->Shared->Prop}(I:Inv X ai σ H s)(hg:Gl X x)(hm:X.mg x=some u)(h:Q u s)
  (hd:(x == ("__debug__" : Str))=false:=by decide):wpAny (model X.prog X.w) X.A (eval (.Name x pos) X.env) Q E s:=
 Calls.Name_function_global I.ok.kind hg (Calls.loadGlobal_global (by rw [I.ok.glob];exact I.mod.glob.keeps I.bk) hm h) hd
theorem fT {E:Value->Shared->Prop}{ai:List (Addr×Obj)}{s:Shared}{σ:St}{H:Hp}{x:Str}{u:Value}{pos:Pos}{Q:Value->Shared->Prop}(I:Inv X ai σ H s)(hg:Gl X x)(hm:X.mg x=none)(hv:bootBuiltins x=some u)(h:Q u s)
  (hn:x ≠ "__name__" := by decide) (hd:(x == ("__debug__" : Str))=false:=by decide):wpAny (model X.prog X.w) X.A (eval (.Name x pos) X.env) Q E s:=by
 obtain ⟨mb,h1,h2⟩:=I.mod.blt;exact Calls.Name_function_global I.ok.kind hg (Calls.loadGlobal_builtin (by rw [I.ok.glob];exact I.mod.glob.keeps I.bk) hm (by rw [I.ok.blt];exact h1.keeps I.bk) ((h2 x hn).trans hv) h) hd
theorem qI {x:Str}{v:V}{u:Value}{pos:Pos}(hg:Gl X x)(hm:X.mg x=none)(hv:bootBuiltins x=some u)(r:RelV v u)(hn:x ≠ "__name__" := by decide)(hd:(x == ("__debug__" : Str))=false:=by decide):PE X (.Name x pos) (tC v):=
 λ_ _ _ H _ I h=>fT I hg hm hv ⟨v,H,I,r,h⟩ hn hd
variable {a b:Expr}{ta tb:TE}{pos:Pos}
def PC (X:Cx)(op:CmpOp)(a b:Expr)(t:TE):Prop:=
 ∀ (ai:List (Addr×Obj)) (s:Shared) (σ:St) (H:Hp) (Q:VK),Inv X ai σ H s->t σ H Q ->
  wpAny (model X.prog X.w) X.A (eval a X.env) (λv aT=>wpAny (model X.prog X.w) X.A (eval b X.env) (λu nv=>wpAny (model X.prog X.w) X.A (compareOp op v u) (EP X ai σ Q) X.xe nv) X.xe aT) X.xe s
def Yc (ta:TE):TE:=fun σ H Q=>ta σ H λx H1=>Q (.bl (decide (x=.bF))) H1
theorem RelV.K8 {x:V}{v:Value}(r:RelV x v):(v == Value.none)=decide (x=.bF):=by
 cases x with
 | bF=>cases r;rfl
 | bl _=>cases r;rfl
 | int _=>obtain ⟨t,rfl⟩:=r;rfl
 | str _=>obtain ⟨t,rfl⟩:=r;rfl
 | JX _=>obtain ⟨t,rfl⟩:=r;rfl
 | Ro _=>obtain ⟨t,rfl⟩:=r;rfl
 | ref _=>cases r;rfl
 | ty _=>cases r;rfl
theorem kh {j pos'}(ha:PE X a ta):PC X .Is a (.Constant .none j pos') (Yc ta):=by intro ai s σ H Q I h;refine aZ (ha ai s σ H _ I h) λv s1 XQ=>?_;obtain ⟨x,H1,I1,r1,q1⟩:=XQ;exact Constant_none (is_none_gen ⟨.bl _,H1,I1,by rw [r1.K8];rfl,q1⟩)
def tB (t:TE):TT:=fun σ H Q=>t σ H λx H1=>∃ c,x=.bl c/\Q c H1
theorem K3 {op:CmpOp}{t:TE}(h:PC X op a b t)(h1:behindInMarks op b=false:=by rfl):PE X (.Compare a [op] [b] pos) t:=λai s σ H Q I hw=>wpAny_Compare1 (h ai s σ H Q I hw) h1
theorem sN {op:CmpOp}{t:TE}(h:PC X op a b t)(h1:behindInMarks op b=false:=by rfl):PT X (.Compare a [op] [b] pos) (tB t):=by intro ai s σ H Q I hw;refine wpAny_isTrue_Compare1 (aZ (h ai s σ H _ I hw) λv s1 h1=>aZ h1 λu s2 h2=>aZ h2 λc s3 XO=>?_) h1;obtain ⟨x,H1,I1,r1,q1⟩:=XO;obtain ⟨d,rfl,q⟩:=q1;cases r1;exact wpAny_truthy_bool ⟨H1,I1,q⟩
theorem wQ {e:Expr}{t:TE}(h:PE X e t)(he:∀ whole,isTrue e X.env whole=(do let v <- whole;standAt e.pos;holding [v] (truthy v)):=by intro _;rfl):PT X e (tB t):=by intro ai s σ H Q I hw;refine isTrue_plain (aZ (h ai s σ H _ I hw) λv s1 XN=>?_) (he _);obtain ⟨x,H1,I1,r1,q1⟩:=XN;obtain ⟨d,rfl,q⟩:=q1;cases r1;exact wpAny_truthy_bool ⟨H1,I1,q⟩
variable {tA VI:TT}{rest:List Expr}
def Na (t u:TT):TT:=fun σ H Q=>t σ H λc H1=>if c=true then u σ H1 Q else Q false H1
def VG (t u:TT):TT:=fun σ H Q=>t σ H λc H1=>if c=true then Q true H1 else u σ H1 Q
def M6 (t:TT):TT:=fun σ H Q=>t σ H λc H1=>Q (!c) H1
theorem dc (ha:PT X a tA):PW X (.BoolOp .And [a] pos) tA:=by
 intro wh ai s σ H Q I h;refine isTrue_and (aZ (ha ai s σ H Q I h) λc s1 e=>?_);cases c with
 | true=>exact isTrue_and_nil e
 | false=>exact e
theorem wx (ha:PT X a tA):PW X (.BoolOp .Or [a] pos) tA:=by
 intro wh ai s σ H Q I h;refine isTrue_or (aZ (ha ai s σ H Q I h) λc s1 e=>?_);cases c with
 | false=>exact isTrue_or_nil e
 | true=>exact e
theorem dH (ha:PT X a tA)(hb:PW X (.BoolOp .And (b::rest) pos) VI):PW X (.BoolOp .And (a::b::rest) pos) (Na tA VI):=by
 intro wh ai s σ H Q I h;refine isTrue_and (aZ (ha ai s σ H _ I h) λc s1 XM=>?_);obtain ⟨H1,I1,q1⟩:=XM;cases c with
 | true=>exact hb wh ai s1 σ H1 Q I1 q1
 | false=>exact ⟨H1,I1,q1⟩
theorem qM (ha:PT X a tA)(hb:PW X (.BoolOp .Or (b::rest) pos) VI):PW X (.BoolOp .Or (a::b::rest) pos) (VG tA VI):=by
 intro wh ai s σ H Q I h;refine isTrue_or (aZ (ha ai s σ H _ I h) λc s1 XJ=>?_);obtain ⟨H1,I1,q1⟩:=XJ;cases c with
 | true=>exact ⟨H1,I1,q1⟩
 | false=>exact hb wh ai s1 σ H1 Q I1 q1
theorem wN (ha:PT X a tA):PT X (.UnaryOp .Not a pos) (M6 tA):=by intro ai s σ H Q I h;exact isTrue_not (ha ai s σ H (λc H1=>Q (!c) H1) I h)
def uo (ta tb:TE):TE:=fun σ H Q=>ta σ H λx H1=>∃ c,x=.bl c/\if c=true then tb σ H1 Q else Q (.bl false) H1
def PR (ta tb:TE):TE:=fun σ H Q=>ta σ H λx H1=>∃ c,x=.bl c/\if c=true then Q (.bl true) H1 else tb σ H1 Q
def uf (ta:TE):TE:=fun σ H Q=>ta σ H λx H1=>∃ c,x=.bl c/\Q (.bl (!c)) H1
theorem qo {op}{t:TE}(h:PE X a t):PE X (.BoolOp op [a] pos) t:=λai s σ H Q I hw=>BoolOp_one (h ai s σ H Q I hw)
theorem qj (ha:PE X a ta)(hb:PE X (.BoolOp .And (b::rest) pos) tb):PE X (.BoolOp .And (a::b::rest) pos) (uo ta tb):=by
 intro ai s σ H Q I h;refine BoolOp_and (aZ (ha ai s σ H _ I h) λv s1 XI=>?_);obtain ⟨x,H1,I1,r1,q1⟩:=XI;obtain ⟨c,rfl,q1⟩:=q1;cases r1;refine wpAny_truthy_bool ?_;cases c with
 | true=>exact hb ai s1 σ H1 Q I1 q1
 | false=>exact ⟨.bl false,H1,I1,rfl,q1⟩
theorem K0 (ha:PE X a ta):PE X (.UnaryOp .Not a pos) (uf ta):=by intro ai s σ H Q I h;refine UnaryOp_ (aZ (ha ai s σ H _ I h) λv s1 XH=>?_);obtain ⟨x,H1,I1,r1,q1⟩:=XH;obtain ⟨c,rfl,q1⟩:=q1;cases r1;exact not_of (wpAny_truthy_bool ⟨.bl (!c),H1,I1,rfl,q1⟩)
end
def aB (K:PySem.W.Frag)(H:Hp)(a:Addr)(xs:List V):Prop:=
 Rd H a (.lst xs) \/
  ∃ (o:Obj) (aC:Array Value) (n:Nat),K.lookup a=some o/\o.cls=.type "list" /\ o.dict=none/\o.data=.seq aC n/\aC.size<=sizeLine/\Vals xs aC.toList
def aX (K:PySem.W.Frag)(H:Hp)(a:Addr)(xs:List V):Prop:=
 Rd H a (.tup xs) \/
  ∃ (o:Obj) (aC:Array Value) (n:Nat),K.lookup a=some o/\o.cls=.type "tuple" /\ o.data=.seq aC n/\aC.size<=sizeLine/\Vals xs aC.toList
def aaZ:Value->Option V
 | .none=>some .bF
 | .bool b=>some (.bl b)
 | .int i _=>some (.int i)
 | .str x _=>some (.str x)
 | .bytes b _=>some (.JX b)
 | .float b _=>some (.Ro b)
 | .ref a=>some (.ref a)
 | .type n=>some (.ty n)
 | _=>none
theorem RelV.abs {x:V}{u:Value}(r:RelV x u):aaZ u=some x:=by
 cases x with
 | bF=>cases r;rfl
 | bl _=>cases r;rfl
 | int _=>obtain ⟨t,rfl⟩:=r;rfl
 | str _=>obtain ⟨t,rfl⟩:=r;rfl
 | JX _=>obtain ⟨t,rfl⟩:=r;rfl
 | Ro _=>obtain ⟨t,rfl⟩:=r;rfl
 | ref _=>cases r;rfl
 | ty _=>cases r;rfl
theorem RelV.inj {x y:V}{u:Value}(r:RelV x u)(q:RelV y u):x=y:=Option.some.inj (r.abs.symm.trans q.abs)
theorem Vals.inj:∀ {xs ys:List V}{us:List Value},Vals xs us->Vals ys us->xs=ys
 | _,_,_,.nil,.nil=>rfl
 | _,_,_,.cons r t,.cons r' t'=>by rw [r.inj r',Vals.inj t t']
section
variable {X:Cx}{ai:List (Addr×Obj)}{σ:St}{H:Hp}{s:Shared}{a:Addr}{xs ys:List V}
theorem aB.of {K:PySem.W.Frag}(h:H a=some (.lst xs)):aB K H a xs:=.inl (.inl h)
theorem aX.of {K:PySem.W.Frag}(h:H a=some (.tup xs)):aX K H a xs:=.inl (.inl h)
theorem Inv.list (I:Inv X ai σ H s)(h:aB X.K H a xs):∃ aC:List Value,Vals xs aC/\PlainL s.heap a aC.toArray/\xs.length<=sizeLine:=by
 rcases h with h | ⟨o,aC,n,hk,hc,hd,hs,hz,r⟩
 ·obtain ⟨z,aC,n,r,e⟩:=h.ok I.bh;exact ⟨aC,r,⟨_,n,e,rfl,rfl,rfl⟩,z⟩
 ·refine ⟨aC.toList,r,⟨o,n,I.p8 a o hk,hc,hd,by simpa using hs⟩,?_⟩;have e:=r.length;simp only [Array.length_toList] at e;omega
theorem Inv.tuple (I:Inv X ai σ H s)(h:aX X.K H a xs):∃ aC:List Value,Vals xs aC/\IsTup s.heap a aC.toArray/\xs.length<=sizeLine:=by
 rcases h with h | ⟨o,aC,n,hk,hc,hs,hz,r⟩
 ·obtain ⟨z,aC,r,p⟩:=h.ok I.bh;exact ⟨aC,r,p,z.1⟩
 ·refine ⟨aC.toList,r,⟨o,I.p8 a o hk,hc,n,by simpa using hs⟩,?_⟩;have e:=r.length;simp only [Array.length_toList] at e;omega
theorem Inv.fS (I:Inv X ai σ H s)(h:aB X.K H a xs)(h':aB X.K H a ys):xs=ys:=by
 obtain ⟨aC,r,⟨o,n,e,_,_,d⟩,_⟩:=I.list h;obtain ⟨its',r',⟨o',n',e',_,_,d'⟩,_⟩:=I.list h';rw [e] at e';cases e';rw [d] at d';injection d' with d1 _
 have:aC=its':=by simpa using congrArg Array.toList d1
 subst this;exact r.inj r'
theorem Inv.iU (I:Inv X ai σ H s)(h:aX X.K H a xs)(h':aX X.K H a ys):xs=ys:=by
 obtain ⟨aC,r,⟨o,e,_,n,d⟩,_⟩:=I.tuple h;obtain ⟨its',r',⟨o',e',_,n',d'⟩,_⟩:=I.tuple h';rw [e] at e';cases e';rw [d] at d';injection d' with d1 _
 have:aC=its':=by simpa using congrArg Array.toList d1
 subst this;exact r.inj r'
end
abbrev Cx.lK (X:Cx)(E:Value->Shared->Prop):Cx:={ X with xe:=E }
abbrev Cx.V0 (X:Cx):Cx:=X.lK λ_ _=>False
theorem Cx.Ok.lK {X:Cx}(ok:X.Ok)(E:Value->Shared->Prop):(X.lK E).Ok:=
 ⟨ok.mod,ok.kind,ok.glob,ok.blt,ok.above,ok.inj,ok.has,ok.Vh,ok.hd,ok.frames,ok.VJ,ok.exf,ok.bs,ok.Mk,ok.Jb,ok.Oh,ok.kP,ok.Sj⟩
theorem Cx.Ok.fN {X:Cx}{E:Value->Shared->Prop}(ok:(X.lK E).Ok):X.Ok:=
 ⟨ok.mod,ok.kind,ok.glob,ok.blt,ok.above,ok.inj,ok.has,ok.Vh,ok.hd,ok.frames,ok.VJ,ok.exf,ok.bs,ok.Mk,ok.Jb,ok.Oh,ok.kP,ok.Sj⟩
section
variable {X:Cx}{ai:List (Addr×Obj)}{σ:St}{H:Hp}{s:Shared}{E:Value->Shared->Prop}
theorem Inv.lK (I:Inv X ai σ H s)(E:Value->Shared->Prop):Inv (X.lK E) ai σ H s:=⟨I.ok.lK E,I.os,I.bare,I.base,I.loc,I.cell,I.free,I.fU,I.pin,I.bh,I.len⟩
theorem Inv.fN (I:Inv (X.lK E) ai σ H s):Inv X ai σ H s:=⟨I.ok.fN,I.os,I.bare,I.base,I.loc,I.cell,I.free,I.fU,I.pin,I.bh,I.len⟩
theorem SP.fN {D:Ends}{f:Flow}{s':Shared}(h:SP (X.lK E) ai D f s'):SP X ai D f s':=by
 cases f with
 | next=>obtain ⟨bK,H',I,q⟩:=h;exact ⟨bK,H',I.fN,q⟩
 | brk=>obtain ⟨bK,H',I,q⟩:=h;exact ⟨bK,H',I.fN,q⟩
 | cont=>obtain ⟨bK,H',I,q⟩:=h;exact ⟨bK,H',I.fN,q⟩
 | ret u=>obtain ⟨v,bK,H',I,r,q⟩:=h;exact ⟨v,bK,H',I.fN,r,q⟩
theorem oE.V0 {st:List Stmt}{t:TS}(h:oE X.V0 st t):oE X st t:=λai s σ H D I hw=>
 wpAny_mono (h ai s σ H D (I.lK _) hw) (λ_ _ q=>q.fN) λ_ _ z=>False.elim z
end
section
variable {X:Cx}{st:Stmt}{rest:List Stmt}{t u:TS}{e:Expr}{te:TE}{pos:Pos}
def jP:TS:=λD σ H=>D.nx σ H
def Kg (t u:TS):TS:=λD σ H=>t (D.go (u D)) σ H
theorem xr:oE X [] jP:=λ_ _ σ H _ I h=>wpAny_execs_nil ⟨σ,H,I,h⟩
theorem KR (h1:PS X st t)(h2:oE X rest u):oE X (st::rest) (Kg t u):=by
 intro ai s σ H D I h;refine wpAny_execs_cons (aZ (h1 ai s σ H (D.go (u D)) I h) λf s1 q=>?_);cases f with
 | next=>
  obtain ⟨bK,H',I',q⟩:=q;exact h2 ai s1 bK H' D I' q
 | ret v=>exact q
 | brk=>exact q
 | cont=>exact q
theorem NH (h1:PS X st t):oE X [st] t:=by
 intro ai s σ H D I h;refine wpAny_execs_cons (aZ (h1 ai s σ H D I h) λf s1 q=>?_);cases f with
 | next=>exact wpAny_execs_nil q
 | ret v=>exact q
 | brk=>exact q
 | cont=>exact q
def Sy:TS:=λD σ H=>D.ct σ H
theorem pG:PS X (.Continue pos) Sy:=λ_ _ σ H _ I h=>wpAny_Continue ⟨σ,H,I,h⟩
theorem Inv.quiet {ai:List (Addr×Obj)}{σ:St}{H:Hp}{s:Shared}(I:Inv X ai σ H s):interactive X.env=false:=by simp [interactive,I.ok.kind]
def ug (te:TE):TS:=λD σ H=>te σ H λ_ H1=>D.nx σ H1
theorem jD (he:PE X e te)(hs:swapsWith e none pos.line X.env=pure false:=by rfl):PS X (.Expr e pos) (ug te):=by intro ai s σ H D I h;exact wpAny_Expr_any (aZ (he ai s σ H _ I h) λv s1 ⟨x,H1,I1,r1,q1⟩=>⟨σ,H1,I1,q1⟩) I.quiet hs
def M5 (te:TE):TS:=λD σ H=>te σ H D.rt
theorem xq (he:PE X e te):PS X (.Return (some e) pos) (M5 te):=by intro ai s σ H D I h;exact wpAny_Return_some (aZ (he ai s σ H _ I h) λv s1 ⟨x,H1,I1,r1,q1⟩=>⟨x,σ,H1,I1,r1,q1⟩)
def M8 (c:TT)(t u:TS):TS:=λD σ H=>c σ H λb H1=>if b=true then t D σ H1 else u D σ H1
theorem xx {c:Expr}{a b:List Stmt}{tc:TT}(hc:PT X c tc)(ha:oE X a t)(hb:oE X b u):PS X (.If c a b pos) (M8 tc t u):=by
 intro ai s σ H D I h;refine wpAny_If (aZ (hc ai s σ H _ I h) λd s1 XG=>?_);obtain ⟨H1,I1,q1⟩:=XG;cases d with
 | true=>exact ha ai s1 σ H1 D I1 q1
 | false=>exact hb ai s1 σ H1 D I1 q1
end
abbrev TG:=V->St->Hp->(St->Hp->Prop)->Prop
abbrev Pg:=List V->St->Hp->(St->Hp->Prop)->Prop
def PG (X:Cx)(target:Expr)(t:TG):Prop:=
 ∀ (ai:List (Addr×Obj)) (s:Shared) (σ:St) (H:Hp) (v:V) (u:Value) (Q:St->Hp->Prop),Inv X ai σ H s->RelV v u->t v σ H Q ->
  wpAny (model X.prog X.w) X.A (assign target X.env u) (λ_ s'=>∃ bK H',Inv X ai bK H' s'/\Q bK H') X.xe s
def Vq (X:Cx)(ts:List Expr)(t:Pg):Prop:=
 ∀ (ai:List (Addr×Obj)) (s:Shared) (σ:St) (H:Hp) (vs:List V) (us:List Value) (Q:St->Hp->Prop),Inv X ai σ H s->Vals vs us->t vs σ H Q ->
  wpAny (model X.prog X.w) X.A (assignInOrder ((assignEach ts X.env).map (·.2)) us) (λ_ s'=>∃ bK H',Inv X ai bK H' s'/\Q bK H') X.xe s
abbrev Mu:=V->V->V->Hp->(Hp->Prop)->Prop
def RD (X:Cx)(t:Mu):Prop:=
 ∀ (ai:List (Addr×Obj)) (s:Shared) (σ:St) (H:Hp) (o i v:V) (ov iv u:Value) (Q:Hp->Prop),Inv X ai σ H s->RelV o ov->RelV i iv->RelV v u->t o i v H Q ->
  wpAny (model X.prog X.w) X.A (setItem ov iv u) (λ_ s'=>∃ H',Inv X ai σ H' s'/\Q H') X.xe s
abbrev WL:=V->V->Hp->VK->Prop
def PIp (X:Cx)(op:Operator)(t:WL):Prop:=
 ∀ (ai:List (Addr×Obj)) (s:Shared) (σ:St) (H:Hp) (x y:V) (v u:Value) (Q:VK),Inv X ai σ H s->RelV x v->RelV y u->t x y H Q ->
  wpAny (model X.prog X.w) X.A (inplaceOp op v u) (EP X ai σ Q) X.xe s
section
variable {X:Cx}{pos:Pos}
def iI (i:Nat):TG:=λv σ H Q=>Q (σ.set i (some v)) H
theorem xX {i:Nat}{x:Str}(hN:X.N.Nodup)(hi:X.N[i]?=some x)(hx:Jf X.env.scope x=true)(hf:ji X x=true:=by rfl):PG X (.Name x pos) (iI i):=by have hx:=jG hx;intro ai s σ H v u Q I r h;exact wpAny_assign_Name (ic I hN hi hx r (λs' I'=>⟨_,H,I',h⟩) hf)
def Of:Pg:=λvs σ H Q=>vs=[]/\Q σ H
def vg (t:TG)(u:Pg):Pg:=λvs σ H Q=>∃ v r,vs=v::r/\t v σ H fun bK H'=>u r bK H' Q
theorem wD:Vq X [] Of:=by intro ai s σ H vs us Q I r h;obtain ⟨e,h⟩:=h;subst e;cases r;exact assignInOrder_nil ⟨σ,H,I,h⟩
theorem xY {e:Expr}{es:List Expr}{t:TG}{u:Pg}(h1:PG X e t)(h2:Vq X es u)
  (hs:(assignEach (e::es) X.env).map (·.2)=assign e X.env::(assignEach es X.env).map (·.2):=by rfl):Vq X (e::es) (vg t u):=by
 intro ai s σ H vs us Q I r h;obtain ⟨v,vr,e1,h⟩:=h;subst e1;cases r with
 | cons r rr=>
  rw [hs];refine assignInOrder_cons (aZ (h1 ai s σ H _ _ _ I r h) λ_ s1 XF=>?_);obtain ⟨σ1,H1,I1,q1⟩:=XF;exact h2 ai s1 σ1 H1 _ _ Q I1 rr q1
def LQ (K:PySem.W.Frag)(n:Nat)(t:Pg):TG:=λv σ H Q=>∃ a xs,v=.ref a/\aX K H a xs/\xs.length=n/\t xs σ H Q
theorem Qt {es:List Expr}{k:Nat}{t:Pg}{n:Nat}(hc:X.calm=true)(h:Vq X es t)
  (hn:(assignEach es X.env).length=n:=by rfl) (lT:(assignEach es X.env).findIdx? (·.1)=none:=by rfl):PG X (.Tuple es k pos) (LQ X.K n t):=by
 intro ai s σ H v u Q I r hw;obtain ⟨a,xs,e1,hq,hl,hw⟩:=hw;subst e1;cases r;obtain ⟨aC,rv,ht,hz⟩:=I.tuple hq;refine assign_Tuple_tuple (I.ok.hd hc) ht (by simp [hn,<- hl,rv.length]) lT λh' hx=>?_;have I1:Inv X ai σ H { s with heap:=h' }:=I.kept (t':=s.toks) λb o e=>hx b o (zt (Heap.lt_size e)) e;exact h ai _ σ H xs _ Q I1 (by simpa using rv) hw
def Oe (to ti:TE)(t:Mu):TG:=λv σ H Q=>to σ H λo H1=>ti σ H1 λi H2=>t o i v H2 λH3=>Q σ H3
theorem wy {o i:Expr}{to ti:TE}{t:Mu}(ho:PE X o to)(hi:PE X i ti)(hs:RD X t)
  (ha:∀ v,assign (.Subscript o i pos) X.env v=(do
   let ov <- holding [v] (eval o X.env)
   let iv <- holding [v,ov] (eval i X.env)
   standAt pos
   holding [v,ov,iv] (setItem ov iv v)
   release [v,ov,iv] []):=by intro _;rfl):PG X (.Subscript o i pos) (Oe to ti t):=by
 intro ai s σ H v u Q I r h;rw [ha];refine wpAny_bind (wpAny_holding (aZ (ho ai s σ H _ I h) λov s1 XE=>?_));obtain ⟨x,H1,I1,r1,q1⟩:=XE;refine wpAny_bind (wpAny_holding (aZ (hi ai s1 σ H1 _ I1 q1) λiv s2 XD=>?_));obtain ⟨y,H2,I2,r2,q2⟩:=XD;refine wpAny_bind (wpAny_standAt (wpAny_bind (wpAny_holding (aZ (hs ai s2 σ H2 x y v ov iv u _ I2 r1 r2 r q2) λ_ s3 XC=>?_))));obtain ⟨H3,I3,q3⟩:=XC;exact wpAny_release ⟨σ,H3,I3,q3⟩
def sd (te:TE)(g:TG):TS:=λD σ H=>te σ H λx H1=>g x σ H1 D.nx
theorem wG {tg e:Expr}{te:TE}{g:TG}(he:PE X e te)(hg:PG X tg g)(hs:swapsWithSole [tg] e pos.line X.env=pure false:=by rfl)(hw:swappedStores [tg] e X.env=pure none:=by rfl)
  (h1:(assignEach [tg] X.env).map (·.2)=[assign tg X.env]:=by rfl):PS X (.Assign [tg] e pos) (sd te g):=by
 intro ai s σ H D I h;refine wpAny_Assign_stores (aZ (he ai s σ H _ I h) λv s1 XA=>?_) hs hw;obtain ⟨x,H1,I1,r1,q1⟩:=XA;rw [h1];exact aZ (hg ai s1 σ H1 x v _ I1 r1 q1) λ_ s2 q=>q
theorem xk {i:Nat}{x:Str}{e:Expr}{te:TE}{pos':Pos}(hN:X.N.Nodup)(hi:X.N[i]?=some x)(hx:Jf X.env.scope x=true)(he:PE X e te)(hs:swapsWith e (some (.Name x pos')) pos.line X.env=pure false:=by rfl)(hf:ji X x=true:=by rfl) :
  PS X (.Assign [.Name x pos'] e pos) (sd te (iI i)):=by
 have hx:=jG hx;intro ai s σ H D I h;refine wpAny_Assign_Name (aZ (he ai s σ H _ I h) λv s1 Xz=>?_) hs;obtain ⟨y,H1,I1,r1,q1⟩:=Xz;exact ic I1 hN hi hx r1 (λs2 I2=>⟨_,H1,I2,q1⟩) hf
def um (to ti te:TE)(MY:V->V->Hp->VK->Prop)(VE:WL)(MX:Mu):TS:=λD σ H=>to σ H λo H1=>ti σ H1 λi H2=>MY o i H2 λx H3=>te σ H3 λy H4=>VE x y H4 λz H5=>MX o i z H5 λH6=>D.nx σ H6
def Vr (X:Cx)(t:V->V->Hp->VK->Prop):Prop:=
 ∀ (ai:List (Addr×Obj)) (s:Shared) (σ:St) (H:Hp) (o i:V) (ov iv:Value) (Q:VK),Inv X ai σ H s->RelV o ov->RelV i iv->t o i H Q ->
  wpAny (model X.prog X.w) X.A (getItem ov iv) (EP X ai σ Q) X.xe s
theorem nH {o i e:Expr}{to ti te:TE}{MY:V->V->Hp->VK->Prop}{VE:WL}{MX:Mu}{op:Operator}{PL:Pos}(ho:PE X o to)(hi:PE X i ti)(hg:Vr X MY)(he:PE X e te)(hp:PIp X op VE)(hs:RD X MX)
  (ha:∀ ov iv new,augStore i ov iv new=(do holding [new,ov,iv] (setItem ov iv new);release [new,ov,iv] [];pure .next):=by intros;rfl):PS X (.AugAssign (.Subscript o i PL) op e pos) (um to ti te MY VE MX):=by
 intro ai s σ H D I h;refine wpAny_AugAssign_SubscriptAny (aZ (ho ai s σ H _ I h) λov s1 Xy=>?_) ha;obtain ⟨x1,H1,I1,r1,q1⟩:=Xy;refine aZ (hi ai s1 σ H1 _ I1 q1) λiv s2 Xx=>?_;obtain ⟨x2,H2,I2,r2,q2⟩:=Xx;refine aZ (hg ai s2 σ H2 x1 x2 ov iv _ I2 r1 r2 q2) λold s3 Xw=>?_;obtain ⟨x3,H3,I3,r3,q3⟩:=Xw;refine aZ (he ai s3 σ H3 _ I3 q3) λv s4 Xv=>?_;obtain ⟨x4,H4,I4,r4,q4⟩:=Xv;refine aZ (hp ai s4 σ H4 x3 x4 old v _ I4 r3 r4 q4) λnew s5 Xu=>?_;obtain ⟨x5,H5,I5,r5,q5⟩:=Xu;exact aZ (hs ai s5 σ H5 x1 x2 x5 ov iv new _ I5 r1 r2 r5 q5) λ_ s6 ⟨H6,I6,q6⟩=>⟨σ,H6,I6,q6⟩
def We (f:Int->Int->Int):WL:=λx y H Q=>∃ i j,x=.int i/\y=.int j/\Q (.int (f i j)) H
theorem tH:PIp X .Add (We λi j=>i + j):=by intro ai s σ H x y v u Q I r1 r2 h;obtain ⟨i,j,e1,e2,q⟩:=h;subst e1;subst e2;obtain ⟨t,rfl⟩:=r1;obtain ⟨t',rfl⟩:=r2;exact iadd_int ⟨.int _,H,I.tok _,⟨_,rfl⟩,q⟩
end
section
variable {X:Cx}{pos:Pos}
end
structure It where
 go:Nat->Hp->Prop
 oA:Nat->Hp->V->Hp->Prop
 stop:Nat->Hp->Prop
def jg (X:Cx)(ai:List (Addr×Obj))(H:Hp)(b:Addr):Prop:=
 H b=none/\b≠X.env.locals/\b ∉ X.fs/\(b∈X.ex\/X.c6.heap.objs.size<=b)/\(∀ x c,X.env.cells.lookup x=some c->c≠b)/\∀ p∈X.pn++ai,p.1≠b
theorem Inv.rj {X:Cx}{ai:List (Addr×Obj)}{σ:St}{H H':Hp}{s:Shared}{b:Addr}(I:Inv X ai σ H s)(hb:s.heap.objs.size<=b)(hn:H' b=none):jg X ai H' b:=by
 refine ⟨hn,yf (zq I.lt hb),I.QC hb,.inr (yG I.sz hb),λx c e z=>?_,λp hp z=>?_⟩
 ·obtain ⟨v,q⟩:=I.cell x c e;exact absurd (zq q.lt (by rw [z];exact hb)) (yM _)
 ·exact absurd (zq (Heap.lt_size (I.pin p hp).1) (by rw [z];exact hb)) (yM _)
structure Turn (P:Program) (w:World) (K:PySem.W.Frag) (tg:Expr) (J:It) (fp:List Addr) (it:Addr) (tn:Nat->Heap->Prop):Prop where
 mem:it∈fp
 obj:∀ i h,tn i h->∀ b∈fp,∃ o,h.get? b=some o/\∀ v,o.data≠.cell v
 keep:∀ i h h',tn i h->(∀ b∈fp,∀ o,h.get? b=some o->h'.get? b=some o)->tn i h'
 item:∀ (X:Cx),X.prog=P->X.w=w->X.K=K->X.calm=true->∀ (i:Nat) (ai:List (Addr×Obj)) (s:Shared) (σ:St) (H:Hp) (E:Value->Shared->Prop),Inv X ai σ H s->(∀ b∈fp,jg X ai H b)->tn i s.heap->J.go i H ->
  wpAny (model P w) X.A (pyNext (.ref it)) (λr s1=>∃ u,r=some u /\
   wpAny (model P w) X.A (letOwnedTupleGo tg (.ref it) u) (λ_ s2=>∃ x H',Inv X ai σ H' s2/\RelV x u/\J.oA i H x H'/\tn (i + 1) s2.heap/\∀ b∈fp,H' b=none) E s1) E s
 done:∀ (X:Cx),X.prog=P->X.w=w->X.K=K->X.calm=true->∀ (i:Nat) (ai:List (Addr×Obj)) (s:Shared) (σ:St) (H:Hp) (E:Value->Shared->Prop),Inv X ai σ H s->(∀ b∈fp,jg X ai H b)->tn i s.heap->J.stop i H ->
  wpAny (model P w) X.A (pyNext (.ref it)) (λr s1=>r=none/\Inv X ai σ H s1) E s
 self:∀ (A:Around) (i:Nat) (s:Shared) (Q:Value->Shared->Prop) (E:Value->Shared->Prop),tn i s.heap->Q (.ref it) s->wpAny (model P w) A (pyIter (.ref it)) Q E s
abbrev TI:=St->Hp->(It->Hp->Prop)->Prop
def PIE (X:Cx)(ai:List (Addr×Obj))(σ:St)(tg:Expr)(R:It->Hp->Prop)(Uk:Value)(s2:Shared):Prop:=
 ∃ (it:Addr) (fp:List Addr) (tn:Nat->Heap->Prop) (J:It) (H':Hp),Uk=.ref it/\Inv X ai σ H' s2/\Turn X.prog X.w X.K tg J fp it tn/\tn 0 s2.heap/\(∀ b∈fp,jg X ai H' b)/\R J H'
def PI (X:Cx)(tg iter:Expr)(wi:TI):Prop:=
 ∀ (ai:List (Addr×Obj)) (s:Shared) (σ:St) (H:Hp) (R:It->Hp->Prop),Inv X ai σ H s->wi σ H R ->
  wpAny (model X.prog X.w) X.A (eval iter X.env) (λv s1=>wpAny (model X.prog X.w) X.A (pyIter v) (PIE X ai σ tg R) X.xe s1) X.xe s
theorem LP {M:Model}{A:Around}{E:Value->Shared->Prop}{s:Shared}{tg:Expr}{it:Addr}{u:Value}{o:Obj}{n:String}{vs:Array Value}{Q:Unit->Shared->Prop}(ho:s.heap.get? it=some o)(hc:o.cls=.type n)(hd:o.data=.fields vs)
    (hn:["enumerate", "zip", "dict_itemiterator", "dict_reverseitemiterator", "odict_iterator", "itertools.zip_longest", "itertools.pairwise"].contains n=false) (hQ:Q () s):wpAny M A (letOwnedTupleGo tg (.ref it) u) Q E s:=by
  unfold letOwnedTupleGo;cases tg <;> first
    | exact wpAny_pure hQ
    | (cases u <;> first
        | exact wpAny_pure hQ
        | (refine wpAny_bind (wpAny_load ho ?_)
           rw [hc,hd];show wpAny M A (if (["enumerate", "zip", "dict_itemiterator", "dict_reverseitemiterator", "odict_iterator", "itertools.zip_longest", "itertools.pairwise"].contains n && vs[0]? == some (rawInt _))=true then _ else _) Q E s;rw [if_neg (by intro h;rw [hn,yR] at h;cases h)];exact wpAny_pure hQ))
def Ow (K:PySem.W.Frag)(a:Addr):It:=
 ⟨λi H=>∃ xs x,aB K H a xs/\xs[i]?=some x,λi H x H'=>H'=H/\∀ xs,aB K H a xs->xs[i]?=some x,λi H=>∃ xs,aB K H a xs/\xs.length<=i⟩
def Ov (K:PySem.W.Frag)(a:Addr):It:=
 ⟨λi H=>∃ xs x,aX K H a xs/\xs[i]?=some x,λi H x H'=>H'=H/\∀ xs,aX K H a xs->xs[i]?=some x,λi H=>∃ xs,aX K H a xs/\xs.length<=i⟩
def t9 (lo:Int)(n:Nat):It:=⟨λi _=>i < n,λi H x H'=>H'=H/\x=.int (lo + i),λi _=>n<=i⟩
theorem vG {P:Program}{w:World}{K:PySem.W.Frag}{tg:Expr}(a it:Addr):Turn P w K tg (Ow K a) [it] it (λi h=>h.IsListIter it a i) where
 mem:=by simp
 obj:=λi h st b hb=>by
  have e:b=it:=by simpa using hb
  subst e;obtain ⟨o,e,c,d⟩:=st;exact ⟨o,e,λv z=>by rw [d] at z;cases z⟩
 keep:=λi h h' st k=>st.at λo e=>k it (by simp) o e
 item:=by
  intro X hP hw hK hc i ai s σ H E I hf st hg;subst hP hw hK;obtain ⟨xs,x,hq,hx⟩:=hg;obtain ⟨aC,rv,p,hz⟩:=I.list hq;obtain ⟨u,hu,ru⟩:=rv.get hx;obtain ⟨f0,f1,f2,f3,f4,f5⟩:=hf it (by simp);refine wpAny_pyNext_list_item st p.isList (x:=u) (by simpa using hu) λh' ON sb=>?_;have I1:Inv X ai σ H { s with heap:=h' }:=I.turned (t':=s.toks) (λb o hb e=>(sb.2 b hb).trans e) f0 f1 f3 f4 f5;obtain ⟨o,e,c,d⟩:=id ON;exact ⟨u,rfl,LP (s:={ s with heap:=h' }) e c d (by decide) ⟨x,H,I1,ru,⟨rfl,λys hy=>by rw [I.fS hy hq];exact hx⟩,ON,λb hb=>(hf b hb).1⟩⟩
 done:=by
  intro X hP hw hK hc i ai s σ H E I hf st hg;subst hP hw hK;obtain ⟨xs,hq,hx⟩:=hg;obtain ⟨aC,rv,p,hz⟩:=I.list hq;obtain ⟨f0,f1,f2,f3,f4,f5⟩:=hf it (by simp);have hl:=rv.length;exact wpAny_pyNext_list_end (I.ok.hd hc) st p.isList (by simp;omega) λh' eb=>⟨rfl,I.turned (t':=s.toks) (λb o hb e=>eb b o hb e) f0 f1 f3 f4 f5⟩
 self:=λ_ _ _ _ _ st h=>wpAny_pyIter_listiter st h
theorem rZ {P:Program}{w:World}{K:PySem.W.Frag}{tg:Expr}(a it:Addr):Turn P w K tg (Ov K a) [it] it (λi h=>h.IsTupleIter it a i) where
 mem:=by simp
 obj:=λi h st b hb=>by
  have e:b=it:=by simpa using hb
  subst e;obtain ⟨o,e,c,d⟩:=st;exact ⟨o,e,λv z=>by rw [d] at z;cases z⟩
 keep:=λi h h' st k=>st.at λo e=>k it (by simp) o e
 item:=by
  intro X hP hw hK hc i ai s σ H E I hf st hg;subst hP hw hK;obtain ⟨xs,x,hq,hx⟩:=hg;obtain ⟨aC,rv,p,hz⟩:=I.tuple hq;obtain ⟨u,hu,ru⟩:=rv.get hx;obtain ⟨f0,f1,f2,f3,f4,f5⟩:=hf it (by simp);refine wpAny_pyNext_tuple_item st (show s.heap.IsTuple a aC.toArray from p) (x:=u) (by simpa using hu) λh' ON sb=>?_;have I1:Inv X ai σ H { s with heap:=h' }:=I.turned (t':=s.toks) (λb o hb e=>(sb.2 b hb).trans e) f0 f1 f3 f4 f5;obtain ⟨o,e,c,d⟩:=id ON;exact ⟨u,rfl,LP (s:={ s with heap:=h' }) e c d (by decide) ⟨x,H,I1,ru,⟨rfl,λys hy=>by rw [I.iU hy hq];exact hx⟩,ON,λb hb=>(hf b hb).1⟩⟩
 done:=by
  intro X hP hw hK hc i ai s σ H E I hf st hg;subst hP hw hK;obtain ⟨xs,hq,hx⟩:=hg;obtain ⟨aC,rv,p,hz⟩:=I.tuple hq;obtain ⟨f0,f1,f2,f3,f4,f5⟩:=hf it (by simp);have hl:=rv.length;exact wpAny_pyNext_tuple_end (I.ok.hd hc) st (show s.heap.IsTuple a aC.toArray from p) (by simp;omega) λh' eb=>⟨rfl,I.turned (t':=s.toks) (λb o hb e=>eb b o hb e) f0 f1 f3 f4 f5⟩
 self:=λ_ _ _ _ _ st h=>wpAny_pyIter_tupleiter st h
theorem r9 {P:Program}{w:World}{K:PySem.W.Frag}{tg:Expr}(it:Addr)(lo:Int)(n:Nat):Turn P w K tg (t9 lo n) [it] it (λi h=>IsRangeIter h it (lo + (i:Nat) * 1) ((n:Int) - (i:Nat)) 1) where
 mem:=by simp
 obj:=λi h st b hb=>by
  have e:b=it:=by simpa using hb
  subst e;exact ⟨_,st,λv z=>by
   have z':Data.fields _=Data.cell v:=z;cases z'⟩
 keep:=λi h h' st k=>k it (by simp) _ st
 item:=by
  intro X hP hw hK hc i ai s σ H E I hf st hg;subst hP hw hK;obtain ⟨f0,f1,f2,f3,f4,f5⟩:=hf it (by simp);have W:=Walks.range (prog:=X.prog) (w:=X.w) (I.ok.hd hc) it lo 1 n;refine W.item i s _ _ hg st λv h' tk hv ON kk=>?_;obtain ⟨t,rfl⟩:=hv;have I1:Inv X ai σ H { s with heap:=h',toks:=tk }:=I.turned (λb o hb e=>kk b o (by simpa using hb) e) f0 f1 f3 f4 f5;refine ⟨_,rfl,LP (s:={ s with heap:=h',toks:=tk }) (n := "range_iterator") ON rfl rfl (by decide) ⟨.int (lo + i),H,I1,⟨t,?_⟩,⟨rfl,rfl⟩,ON,λb hb=>(hf b hb).1⟩⟩;rw [Int.mul_one]
 done:=by
  intro X hP hw hK hc i ai s σ H E I hf st hg;subst hP hw hK;obtain ⟨f0,f1,f2,f3,f4,f5⟩:=hf it (by simp);exact wpAny_pyNext_range_end (I.ok.hd hc) st (by have:n<=i:=hg;omega) λh' eb=>⟨rfl,I.turned (t':=s.toks) (λb o hb e=>eb b o hb e) f0 f1 f3 f4 f5⟩
 self:=λ_ _ _ _ _ st h=>wpAny_pyIter_rangeiter st h
section
variable {X:Cx}{tg:Expr}
def O1 (K:PySem.W.Frag)(tl:TE):TI:=fun σ H R=>tl σ H λx H1=>∃ a,x=.ref a/\(∃ xs,aB K H1 a xs)/\R (Ow K a) H1
def Ut (K:PySem.W.Frag)(tl:TE):TI:=fun σ H R=>tl σ H λx H1=>∃ a,x=.ref a/\(∃ xs,aX K H1 a xs)/\R (Ov K a) H1
theorem NK {l:Expr}{tl:TE}(hl:PE X l tl):PI X tg l (O1 X.K tl):=by
 intro ai s σ H R I h;refine aZ (hl ai s σ H _ I h) λv s1 Xs=>?_;obtain ⟨x,H1,I1,r1,q1⟩:=Xs;obtain ⟨a,e,⟨xs,hq⟩,q⟩:=q1;subst e;cases r1;obtain ⟨aC,rv,p,hz⟩:=I1.list hq;refine wpAny_pyIter_list p.isList ?_;refine ⟨s1.heap.objs.size,[s1.heap.objs.size],_,_,H1,rfl,I1.kept (t':=s1.toks) λb o e=>Heap.get?_push_of_some _ e,vG a _,⟨_,Heap.get?_push_size _ rfl,rfl,rfl⟩,λb hb=>?_,q⟩;have e:b=s1.heap.objs.size:=by simpa using hb
 subst e;exact I1.rj (zJ _) (I1.bh.fresh (zJ _))
theorem Qs {l:Expr}{tl:TE}(hl:PE X l tl):PI X tg l (Ut X.K tl):=by
 intro ai s σ H R I h;refine aZ (hl ai s σ H _ I h) λv s1 Xr=>?_;obtain ⟨x,H1,I1,r1,q1⟩:=Xr;obtain ⟨a,e,⟨xs,hq⟩,q⟩:=q1;subst e;cases r1;obtain ⟨aC,rv,p,hz⟩:=I1.tuple hq;refine wpAny_pyIter_tuple (show s1.heap.IsTuple a aC.toArray from p) ?_;refine ⟨s1.heap.objs.size,[s1.heap.objs.size],_,_,H1,rfl,I1.kept (t':=s1.toks) λb o e=>Heap.get?_push_of_some _ e,rZ a _,⟨_,Heap.get?_push_size _ rfl,rfl,rfl⟩,λb hb=>?_,q⟩;have e:b=s1.heap.objs.size:=by simpa using hb
 subst e;exact I1.rj (zJ _) (I1.bh.fresh (zJ _))
theorem pD {ai:List (Addr×Obj)}{σ:St}{H:Hp}{s:Shared}{R:It->Hp->Prop}{E:Value->Shared->Prop}{lo hi:Int}{t u v:Tok}{tk:Nat}(I:Inv X ai σ H s)(h1:-(2 ^ 62)<=lo)(h2:lo < 2 ^ 62)(h3:-(2 ^ 62)<=hi)(h4:hi < 2 ^ 62)
  (q:R (t9 lo (hi - lo).toNat) H):wpAny (model X.prog X.w) X.A (pyIter (.ref s.heap.objs.size)) (PIE X ai σ tg R) E { s with heap:=s.heap.push { cls:=.type "range", data:=.fields #[.int lo t,.int hi u,.int 1 v] },toks:=tk }:=by
 refine wpAny_pyIter_range (IsRange.new ..) (small_one h1 h2 h3 h4) ?_;have I1:Inv X ai σ H { s with heap:=s.heap.push { cls:=.type "range", data:=.fields #[.int lo t,.int hi u,.int 1 v] },toks:=tk }:=I.kept λb o e=>Heap.get?_push_of_some _ e;refine ⟨(s.heap.push { cls:=.type "range", data:=.fields #[.int lo t,.int hi u,.int 1 v] }).objs.size,[(s.heap.push { cls:=.type "range", data:=.fields #[.int lo t,.int hi u,.int 1 v] }).objs.size],_,_,H,rfl,
  I1.kept (t':=tk) λb o e=>Heap.get?_push_of_some _ e,r9 _ lo (hi - lo).toNat,?_,λb hb=>?_,q⟩
 ·have e1:lo + ((0:Nat):Int) * 1=lo:=by simp
  have e2:(((hi - lo).toNat:Nat):Int) - ((0:Nat):Int)=Builtin.Range.rangeSize lo hi 1:=by rw [rangeSize_one];split <;> omega
  show IsRangeIter _ _ (lo + ((0:Nat):Int) * 1) ((((hi - lo).toNat:Nat):Int) - ((0:Nat):Int)) 1;rw [e1,e2];exact Heap.get?_push_size _ rfl
 ·have e:b=(s.heap.push { cls:=.type "range", data:=.fields #[.int lo t,.int hi u,.int 1 v] }).objs.size:=by simpa using hb
  subst e;exact I1.rj (zJ _) (I1.bh.fresh (zJ _))
def Uv (ta:TA):TI:=fun σ H R=>ta σ H λvs H1=>∃ j:Int,vs=[.int j]/\-(2 ^ 62)<=j/\j < 2 ^ 62/\R (t9 0 j.toNat) H1
def Uu (ta:TA):TI:=fun σ H R=>ta σ H λvs H1=>∃ i j:Int,vs=[.int i,.int j]/\(-(2 ^ 62)<=i/\i < 2 ^ 62/\-(2 ^ 62)<=j/\j < 2 ^ 62)/\R (t9 i (j - i).toNat) H1
theorem wV {a:Expr}{ta:TA}{p pos:Pos}(hg:Gl X "range")(hm:X.mg "range" = none)(ha:PA X [a] ta)(hs:starEach [a] X.env=[(false,eval a X.env)]:=by rfl):PI X tg (.Call (.Name "range" p) [a] [] pos) (Uv ta):=by
 intro ai s σ H R I h;refine Call_ (fT I hg hm boot_range (yT (aZ (ha pos ai s σ H _ I h) λus s1 Xq=>?_) hs rfl));obtain ⟨vs,H1,I1,r1,q1⟩:=Xq;obtain ⟨j,e,q1,q2,q⟩:=q1;subst e;cases r1 with
 | cons r rr=>
  cases rr;obtain ⟨t,rfl⟩:=r;exact call_range_1 (pD I1 (by omega) (by omega) q1 q2 (by simpa using q))
theorem IW {a b:Expr}{ta:TA}{p pos:Pos}(hg:Gl X "range")(hm:X.mg "range" = none)(ha:PA X [a,b] ta)(hs:starEach [a,b] X.env=[(false,eval a X.env),(false,eval b X.env)]:=by rfl)(qw:starEach [b] X.env=[(false,eval b X.env)]:=by rfl) :
  PI X tg (.Call (.Name "range" p) [a,b] [] pos) (Uu ta):=by
 intro ai s σ H R I h;refine Call_ (fT I hg hm boot_range (yT (aZ (ha pos ai s σ H _ I h) λus s1 Xp=>?_) (by rw [hs,qw]) (by rw [qw];rfl)));obtain ⟨vs,H1,I1,r1,q1⟩:=Xp;obtain ⟨i,j,e,⟨q1,q2,q3,q4⟩,q⟩:=q1;subst e;cases r1 with
 | cons r rr=>
  cases rr with
  | cons r' rr=>
   cases rr;obtain ⟨t,rfl⟩:=r;obtain ⟨t',rfl⟩:=r';exact call_range_2 (pD I1 q1 q2 q3 q4 q)
def Yd (wi:TI)(g:TG)(tb:TS):TS:=λD σ H=>wi σ H λJ H1=>∃ W:Nat->Nat->St->Hp->Prop,(∃ m,W 0 m σ H1)/\∀ i m σ H,W i m σ H ->
 (J.stop i H/\D.nx σ H)\/(J.go i H/\∃ N:St->Hp->Prop,(∀ bK H',N bK H'->∃ m',m' < m/\W (i + 1) m' bK H')/\∀ x H',J.oA i H x H'->g x σ H' fun lJ H2=>tb (D.lp N) lJ H2)
def gJ (fp:List Addr)(h:Heap):List (Addr×Obj):=fp.filterMap λb=>(h.get? b).map λo=>(b,o)
theorem qF {fp:List Addr}{h:Heap}{b:Addr}{o:Obj}(hb:b∈fp)(e:h.get? b=some o):(b,o)∈gJ fp h:=yy.mpr ⟨b,hb,by rw [e];rfl⟩
theorem Ja {fp:List Addr}{h:Heap}{p:Addr×Obj}(hp:p∈gJ fp h):p.1∈fp/\h.get? p.1=some p.2:=by
 obtain ⟨b,hb,e⟩:=yy.mp hp;cases q:h.get? b with
 | none=>rw [q] at e;cases e
 | some o=>
  rw [q] at e;have e':(b,o)=p:=Option.some.inj e;subst e';exact ⟨hb,q⟩
theorem Inv.pinned {ai:List (Addr×Obj)}{σ:St}{H:Hp}{s:Shared}{fp:List Addr}(I:Inv X ai σ H s)(hf:∀ b∈fp,jg X ai H b)(ho:∀ b∈fp,∃ o,s.heap.get? b=some o/\∀ v,o.data≠.cell v):Inv X (ai++gJ fp s.heap) σ H s:=
 I.dY λp hp=>(zV.mp hp).elim (λz=>I.pin p (zS _ z)) λz=>by
  obtain ⟨hb,e⟩:=Ja z;obtain ⟨f0,f1,f2,_⟩:=hf p.1 hb;obtain ⟨o,e',d⟩:=ho p.1 hb;rw [e] at e';cases e';exact ⟨e,f0,f1,f2,d⟩
theorem Inv.cO {ai pl:List (Addr×Obj)}{σ:St}{H:Hp}{s:Shared}(I:Inv X (ai++pl) σ H s):Inv X ai σ H s:=I.dY λp hp=>I.pin p (zS _ (yh _ hp))
theorem qP {iter:Expr}{body:List Stmt}{wi:TI}{g:TG}{tb:TS}{pos:Pos}(hp:PassesOwn (model X.prog X.w) X.A X.env X.xe)(hc:X.calm=true)(hi:PI X tg iter wi)(hg:PG X tg g)(hb:oE X body tb)
  (hs:∀ x,foldedSetIterable iter X.env x=pure x:=by intro _;rfl):PS X (.For tg iter body [] pos) (Yd wi g tb):=by
 intro ai s σ H D I h;refine wpAny_For (aZ (hi ai s σ H _ I h) λv s1 h1=>aZ h1 λUk s2 h2=>?_) hs;obtain ⟨it,fp,tn,J,H2,e,I2,T,MC,f2,W,⟨m0,w0⟩,turn⟩:=h2;subst e
 -- adh stays true of vJ gM objects through vJ loop
 have gH:∀ {H':Hp},(∀ b∈fp,H' b=none)->∀ b∈fp,jg X ai H' b:=λhn b hb=>⟨hn b hb,(f2 b hb).2⟩;refine codeAny_forLoop_any (λn s'=>∃ i bK H',Inv X ai bK H' s'/\tn i s'.heap/\(∀ b∈fp,H' b=none)/\W i n bK H') ?_ m0 ⟨0,σ,H2,I2,MC,λb hb=>(f2 b hb).1,w0⟩;rintro n s3 ⟨i,So,H3,I3,st3,fr3,w3⟩;rcases turn i n So H3 w3 with ⟨stop,qn⟩ | ⟨go,N,hN,step⟩
 ·refine wpAny_passesOwn hp (aZ (T.done X rfl rfl rfl hc i ai s3 So H3 X.xe I3 (gH fr3) st3 stop) λr s4 ⟨hr,I4⟩=>?_);subst hr;exact wpAny_execs_nil ⟨So,H3,I4,qn⟩
 ·refine wpAny_passesOwn hp (aZ (T.item X rfl rfl rfl hc i ai s3 So H3 X.xe I3 (gH fr3) st3 go) λr s4 ⟨u,hr,h4⟩=>?_);subst hr;refine wpAny_passesOwn hp (aZ h4 λ_ s5 Xo=>?_);obtain ⟨x,H5,I5,r5,y5,JO,MO⟩:=Xo;have I5':=I5.pinned (gH MO) (T.obj _ _ JO);refine wpAny_passesOwn hp (aZ (hg _ s5 So H5 x u _ I5' r5 (step x H5 y5)) λ_ s6 Xn=>?_);obtain ⟨σ6,H6,I6,q6⟩:=Xn;refine wpAny_passesOwn hp (aZ (hb _ s6 σ6 H6 _ I6 q6) λf s7 q7=>?_);have again:∀ {JZ:St} {H7:Hp},Inv X (ai++gJ fp s5.heap) JZ H7 s7->N JZ H7->∃ m,m < n/\∃ i bK H',Inv X ai bK H' s7/\tn i s7.heap/\(∀ b∈fp,H' b=none)/\W i m bK H':=λ{JZ H7} I7 n7=>by
   obtain ⟨m',hm,w7⟩:=hN JZ H7 n7;refine ⟨m',hm,i + 1,JZ,H7,I7.cO,T.keep _ _ _ JO λb hb o e=>(I7.pin (b,o) (zS _ (zS _ (qF hb e)))).1,λb hb=>?_,w7⟩;obtain ⟨o,e,d⟩:=T.obj _ _ JO b hb;exact (I7.pin (b,o) (zS _ (zS _ (qF hb e)))).2.1
  cases f with
  | next=>obtain ⟨JZ,H7,I7,n7⟩:=q7;exact again I7 n7
  | cont=>obtain ⟨JZ,H7,I7,n7⟩:=q7;exact again I7 n7
  | brk=>obtain ⟨JZ,H7,I7,q7⟩:=q7;exact ⟨JZ,H7,I7.cO,q7⟩
  | ret v=>obtain ⟨x7,JZ,H7,I7,r7,q7⟩:=q7;exact ⟨x7,JZ,H7,I7.cO,r7,q7⟩
end
theorem LV {K:PySem.W.Frag}{a:Addr}{xs:List V}{g:TG}{tb:TS}{D:Ends}{σ:St}{H:Hp}(Pv:Nat->St->Hp->Prop)(h0:Pv 0 σ H)(hl:∀ i σ H,i<=xs.length->Pv i σ H->aB K H a xs)
  (hs:∀ i x σ H,xs[i]?=some x->Pv i σ H->g x σ H fun lJ H2=>tb (D.lp (Pv (i + 1))) lJ H2) (hd:∀ σ H,Pv xs.length σ H->D.nx σ H) :
  ∃ W:Nat->Nat->St->Hp->Prop,(∃ m,W 0 m σ H)/\∀ i m σ H,W i m σ H ->
   ((Ow K a).stop i H/\D.nx σ H)\/((Ow K a).go i H/\∃ N:St->Hp->Prop,(∀ bK H',N bK H'->∃ m',m' < m/\W (i + 1) m' bK H')/\∀ x H',(Ow K a).oA i H x H'->g x σ H' fun lJ H2=>tb (D.lp N) lJ H2):=by
 refine ⟨λi m σ H=>m=xs.length - i/\i<=xs.length/\Pv i σ H,⟨xs.length,by simp,zx _,h0⟩,?_⟩;rintro i m σ H ⟨rfl,hi,p⟩;have q:=hl i σ H hi p;by_cases gc:i < xs.length
 ·refine .inr ⟨⟨xs,xs[i],q,by simp [gc]⟩,Pv (i + 1),fun bK H' p'=>⟨xs.length - (i + 1),by omega,rfl,gc,p'⟩,λx H' y=>?_⟩;obtain ⟨e,y⟩:=y;subst e;exact hs i x σ _ (y xs q) p
 ·have e:i=xs.length:=by omega
  subst e;exact .inl ⟨⟨xs,q,zJ _⟩,hd σ H p⟩
theorem Og {K:PySem.W.Frag}{a:Addr}{xs:List V}{g:TG}{tb:TS}{D:Ends}{σ:St}{H:Hp}(Pv:Nat->St->Hp->Prop)(h0:Pv 0 σ H)(hl:∀ i σ H,i<=xs.length->Pv i σ H->aX K H a xs)
  (hs:∀ i x σ H,xs[i]?=some x->Pv i σ H->g x σ H fun lJ H2=>tb (D.lp (Pv (i + 1))) lJ H2) (hd:∀ σ H,Pv xs.length σ H->D.nx σ H) :
  ∃ W:Nat->Nat->St->Hp->Prop,(∃ m,W 0 m σ H)/\∀ i m σ H,W i m σ H ->
   ((Ov K a).stop i H/\D.nx σ H)\/((Ov K a).go i H/\∃ N:St->Hp->Prop,(∀ bK H',N bK H'->∃ m',m' < m/\W (i + 1) m' bK H')/\∀ x H',(Ov K a).oA i H x H'->g x σ H' fun lJ H2=>tb (D.lp N) lJ H2):=by
 refine ⟨λi m σ H=>m=xs.length - i/\i<=xs.length/\Pv i σ H,⟨xs.length,by simp,zx _,h0⟩,?_⟩;rintro i m σ H ⟨rfl,hi,p⟩;have q:=hl i σ H hi p;by_cases gc:i < xs.length
 ·refine .inr ⟨⟨xs,xs[i],q,by simp [gc]⟩,Pv (i + 1),fun bK H' p'=>⟨xs.length - (i + 1),by omega,rfl,gc,p'⟩,λx H' y=>?_⟩;obtain ⟨e,y⟩:=y;subst e;exact hs i x σ _ (y xs q) p
 ·have e:i=xs.length:=by omega
  subst e;exact .inl ⟨⟨xs,q,zJ _⟩,hd σ H p⟩
theorem wq {lo:Int}{n:Nat}{g:TG}{tb:TS}{D:Ends}{σ:St}{H:Hp}(Pv:Nat->St->Hp->Prop)(h0:Pv 0 σ H)
  (hs:∀ i σ H,i < n->Pv i σ H->g (.int (lo + i)) σ H fun lJ H2=>tb (D.lp (Pv (i + 1))) lJ H2) (hd:∀ σ H,Pv n σ H->D.nx σ H) :
  ∃ W:Nat->Nat->St->Hp->Prop,(∃ m,W 0 m σ H)/\∀ i m σ H,W i m σ H ->
   ((t9 lo n).stop i H/\D.nx σ H)\/((t9 lo n).go i H/\∃ N:St->Hp->Prop,(∀ bK H',N bK H'->∃ m',m' < m/\W (i + 1) m' bK H')/\∀ x H',(t9 lo n).oA i H x H'->g x σ H' fun lJ H2=>tb (D.lp N) lJ H2):=by
 refine ⟨λi m σ H=>m=n - i/\i<=n/\Pv i σ H,⟨n,by simp,zx _,h0⟩,?_⟩;rintro i m σ H ⟨rfl,hi,p⟩;by_cases gc:i < n
 ·refine .inr ⟨gc,Pv (i + 1),fun bK H' p'=>⟨n - (i + 1),by omega,rfl,gc,p'⟩,λx H' y=>?_⟩;obtain ⟨e,y⟩:=y;subst e y;exact hs i σ _ gc p
 ·have e:i=n:=by omega
  subst e;exact .inl ⟨zJ _,hd σ H p⟩
abbrev R2:=V->V->Hp->VK->Prop
def gE (X:Cx)(f:Value->Value->Sem Value)(r:R2):Prop:=
 ∀ (ai:List (Addr×Obj)) (s:Shared) (σ:St) (H:Hp) (x y:V) (v u:Value) (Q:VK),Inv X ai σ H s->RelV x v->RelV y u->r x y H Q ->
  wpAny (model X.prog X.w) X.A (f v u) (EP X ai σ Q) X.xe s
def UnR (X:Cx)(f:Value->Sem Value)(r:V->Hp->VK->Prop):Prop:=
 ∀ (ai:List (Addr×Obj)) (s:Shared) (σ:St) (H:Hp) (x:V) (v:Value) (Q:VK),Inv X ai σ H s->RelV x v->r x H Q ->
  wpAny (model X.prog X.w) X.A (f v) (EP X ai σ Q) X.xe s
def cD (X:Cx)(f:Value)(r:List V->Hp->VK->Prop):Prop:=
 ∀ (ai:List (Addr×Obj)) (s:Shared) (σ:St) (H:Hp) (xs:List V) (us:List Value) (Q:VK),Inv X ai σ H s->Vals xs us->r xs H Q ->
  wpAny (model X.prog X.w) X.A (call f us) (EP X ai σ Q) X.xe s
def PU (r:R2)(ta tb:TE):TE:=fun σ H Q=>ta σ H λx H1=>tb σ H1 λy H2=>r x y H2 Q
def Sw (r:V->Hp->VK->Prop)(ta:TE):TE:=fun σ H Q=>ta σ H λx H1=>r x H1 Q
def rI (C:Int->Int->Prop)(g:Int->Int->V):R2:=λx y H Q=>∃ i j,x=.int i/\y=.int j/\C i j/\Q (g i j) H
def JQ (g:Int->Int->V):R2:=λx y H Q=>∃ i j,x=.int i/\y=.int j/\Q (g i j) H
def rU (g:Int->V):V->Hp->VK->Prop:=λx H Q=>∃ i,x=.int i/\Q (g i) H
section
variable {X:Cx}{a b c:Expr}{ta tb tc:TE}{pos:Pos}
theorem Rw (ha:PE X a ta)(hb:PE X b tb){ai:List (Addr×Obj)}{s:Shared}{σ:St}{H:Hp}{R:V->V->Hp->Prop}(I:Inv X ai σ H s)
  (h:ta σ H λx H1=>tb σ H1 λy H2=>R x y H2) {Q:Value->Shared->Prop}{f:Value->Value->Sem Value}
  (hf:∀ v u s2 x y H2,Inv X ai σ H2 s2->RelV x v->RelV y u->R x y H2->wpAny (model X.prog X.w) X.A (f v u) Q X.xe s2) :
  wpAny (model X.prog X.w) X.A (eval a X.env) (λv aT=>wpAny (model X.prog X.w) X.A (eval b X.env) (λu nv=>wpAny (model X.prog X.w) X.A (f v u) Q X.xe nv) X.xe aT) X.xe s:=by
 refine aZ (ha ai s σ H _ I h) λv s1 Xm=>?_;obtain ⟨x,H1,I1,r1,q1⟩:=Xm;refine aZ (hb ai s1 σ H1 _ I1 q1) λu s2 Xl=>?_;obtain ⟨y,H2,I2,r2,q2⟩:=Xl;exact hf v u s2 x y H2 I2 r1 r2 q2
theorem xm {op:Operator}{r:R2}(ho:gE X (binaryOp op) r)(ha:PE X a ta)(hb:PE X b tb):PE X (.BinOp a op b pos) (PU r ta tb):=by intro ai s σ H Q I h;exact wpAny_BinOp (Rw ha hb I h λv u s2 x y H2 I2 rx ry q=>ho ai s2 σ H2 x y v u Q I2 rx ry q)
theorem pL {op:UnaryOp}{r:V->Hp->VK->Prop}(ho:UnR X (unaryOp op) r)(ha:PE X a ta):PE X (.UnaryOp op a pos) (Sw r ta):=by intro ai s σ H Q I h;exact UnaryOp_ (aZ (ha ai s σ H _ I h) λv s1 ⟨x,H1,I1,r1,q1⟩=>ho ai s1 σ H1 x v Q I1 r1 q1)
theorem VY {f:Value->Value->Sem Value}{C:Int->Int->Prop}{g:Int->Int->Int}
  (rule:∀ (i j:Int) (t u:Tok) (s:Shared) (Q:Value->Shared->Prop) (E:Value->Shared->Prop),C i j->Q (.int (g i j) s.toks) { s with toks:=s.toks + 1 }->wpAny (model X.prog X.w) X.A (f (.int i t) (.int j u)) Q E s) :
  gE X f (rI C λi j=>.int (g i j)):=by
 intro ai s σ H x y v u Q I rx ry h;obtain ⟨i,j,rfl,rfl,hc,q⟩:=h;obtain ⟨t,rfl⟩:=rx;obtain ⟨t',rfl⟩:=ry;exact rule i j t t' s _ _ hc ⟨.int (g i j),H,I.tok _,⟨_,rfl⟩,q⟩
theorem Qz {f:Value->Value->Sem Value}{g:Int->Int->Int}
  (rule:∀ (i j:Int) (t u:Tok) (s:Shared) (Q:Value->Shared->Prop) (E:Value->Shared->Prop),Q (.int (g i j) s.toks) { s with toks:=s.toks + 1 }->wpAny (model X.prog X.w) X.A (f (.int i t) (.int j u)) Q E s) :
  gE X f (JQ λi j=>.int (g i j)):=by
 intro ai s σ H x y v u Q I rx ry h;obtain ⟨i,j,rfl,rfl,q⟩:=h;obtain ⟨t,rfl⟩:=rx;obtain ⟨t',rfl⟩:=ry;exact rule i j t t' s _ _ ⟨.int (g i j),H,I.tok _,⟨_,rfl⟩,q⟩
theorem NP {f:Value->Value->Sem Value}{g:Int->Int->Bool}
  (rule:∀ (i j:Int) (t u:Tok) (s:Shared) (Q:Value->Shared->Prop) (E:Value->Shared->Prop),Q (.bool (g i j)) s->wpAny (model X.prog X.w) X.A (f (.int i t) (.int j u)) Q E s) :
  gE X f (JQ λi j=>.bl (g i j)):=by
 intro ai s σ H x y v u Q I rx ry h;obtain ⟨i,j,rfl,rfl,q⟩:=h;obtain ⟨t,rfl⟩:=rx;obtain ⟨t',rfl⟩:=ry;exact rule i j t t' s _ _ ⟨.bl (g i j),H,I,rfl,q⟩
def My (i j:Int):Prop:=0<=j/\j<=1000000/\i.natAbs < 2 ^ 64
def JL (i j:Int):Prop:=(-(2 ^ 64) < i/\i < 2 ^ 64)\/(-(2 ^ 64) < j/\j < 2 ^ 64)
theorem JL.ok {i j:Int}(h:JL i j):IntMulOk i j:=by
 rcases h with ⟨h1,h2⟩ | ⟨h1,h2⟩
 ·exact .of_left (intBits_le_64 h1 h2)
 ·exact .of_right (intBits_le_64 h1 h2)
theorem wR:gE X (binaryOp .Add) (JQ λi j=>.int (i + j)):=Qz λ_ _ _ _ _ _ _ q=>add_int q
theorem wW:gE X (binaryOp .Sub) (JQ λi j=>.int (i - j)):=Qz λ_ _ _ _ _ _ _ q=>sub_int q
theorem cH:gE X (binaryOp .Mult) (rI JL λi j=>.int (i * j)):=VY λ_ _ _ _ _ _ _ hc q=>mul_int q hc.ok
theorem fj:gE X (binaryOp .Mod) (rI (λ_ j=>0 < j) λi j=>.int (i % j)):=VY λi j _ _ _ _ _ hc q=>by
 have h1:(0:Int) < j:=hc;exact mod_int' (by omega) (by rw [Int.fmod_eq_emod_of_nonneg i (by omega)];exact q)
theorem gK:gE X (binaryOp .Pow) (rI My λi j=>.int (i ^ j.toNat)):=VY λ_ _ _ _ _ _ _ hc q=>pow_int_small hc.1 hc.2.1 hc.2.2 q
theorem Qx:gE X (binaryOp .BitXor) (JQ λi j=>.int (Builtin.bitXor i j)):=Qz λ_ _ _ _ _ _ _ q=>xor_int q
theorem unI {f:Value->Sem Value}{g:Int->Int}
  (rule:∀ (i:Int) (t:Tok) (s:Shared) (Q:Value->Shared->Prop) (E:Value->Shared->Prop),Q (.int (g i) s.toks) { s with toks:=s.toks + 1 }->wpAny (model X.prog X.w) X.A (f (.int i t)) Q E s) :
  UnR X f (rU λi=>.int (g i)):=by
 intro ai s σ H x v Q I rx h;obtain ⟨i,rfl,q⟩:=h;obtain ⟨t,rfl⟩:=rx;exact rule i t s _ _ ⟨.int (g i),H,I.tok _,⟨_,rfl⟩,q⟩
theorem jN:UnR X (unaryOp .USub) (rU λi=>.int (-i)):=unI λ_ _ _ _ _ q=>neg_int q
end
def SN:V->Bool
 | .bF=>true | .int _=>true | .bl _=>true | .str _=>true | _=>false
def VM:V->Bool
 | .bF=>true | .int _=>true | .str _=>true | _=>false
def VN:V->Bool
 | .bF=>true | .bl _=>true | .str _=>true | _=>false
def scY:V->Bool
 | .JX _=>true | _=>false
def KH:V->V->Bool
 | .bF,y=>SN y | .int _,y=>VM y | .bl _,y=>VN y | .str _,y=>SN y | .JX _,y=>scY y | _,_=>false
def VT:R2:=λx y H Q=>KH x y=true/\Q (.bl (decide (x=y))) H
def VS:R2:=λx y H Q=>KH x y=true/\Q (.bl (!decide (x=y))) H
theorem vo {i j:Int}:decide (V.int i=V.int j)=(i == j):=by rw [xG];simp
theorem Mc {i j:Bool}:decide (V.bl i=V.bl j)=(i == j):=by rw [xG];simp
theorem vn {i j:Str}:decide (V.str i=V.str j)=(i == j):=by rw [xG];simp
theorem vp {i j:Array UInt8}:decide (V.JX i=V.JX j)=(i.toList == j.toList):=by rw [xG];cases i;cases j;simp
section
variable {X:Cx}{a b c:Expr}{ta tb tc:TE}{pos:Pos}
theorem wd {ai:List (Addr×Obj)}{σ:St}{H:Hp}{s:Shared}{Q:VK}{k k':Bool}(I:Inv X ai σ H s)(q:Q (.bl k) H)(e:k=k'):EP X ai σ Q (.bool k') s:=by subst e;exact ⟨.bl k,H,I,rfl,q⟩
theorem qA:gE X (compareOp .Eq) VT:=by
 intro ai s σ H x y v u Q I rx ry h;obtain ⟨hs,q⟩:=h;cases x with
 | bF=>
  cases rx;cases y with
  | bF=>cases ry;exact PySem.EqNone.eq_none_none (wd I q (by simp))
  | bl j=>cases ry;exact PySem.EqNone.eq_none_bool (wd I q (by simp))
  | int j=>obtain ⟨t',rfl⟩:=ry;exact PySem.EqNone.eq_none_int (wd I q (by simp))
  | str j=>obtain ⟨t',rfl⟩:=ry;exact PySem.EqNone.eq_none_str (wd I q (by simp))
  | _=>exact absurd (show false=true from hs) za
 | bl i=>
  cases rx;cases y with
  | bF=>cases ry;exact PySem.EqNone.eq_bool_none (wd I q (by simp))
  | bl j=>cases ry;exact eq_bool (wd I q Mc)
  | str j=>obtain ⟨t',rfl⟩:=ry;exact PySem.EqMixed.eq_bool_str (wd I q (by simp))
  | _=>exact absurd (show false=true from hs) za
 | int i=>
  obtain ⟨t,rfl⟩:=rx;cases y with
  | bF=>cases ry;exact PySem.EqNone.eq_int_none (wd I q (by simp))
  | int j=>obtain ⟨t',rfl⟩:=ry;exact eq_int (wd I q vo)
  | str j=>obtain ⟨t',rfl⟩:=ry;exact PySem.EqMixed.eq_int_str (wd I q (by simp))
  | _=>exact absurd (show false=true from hs) za
 | str i=>
  obtain ⟨t,rfl⟩:=rx;cases y with
  | bF=>cases ry;exact PySem.EqNone.eq_str_none (wd I q (by simp))
  | bl j=>cases ry;exact PySem.EqMixed.eq_str_bool (wd I q (by simp))
  | int j=>obtain ⟨t',rfl⟩:=ry;exact PySem.EqMixed.eq_str_int (wd I q (by simp))
  | str j=>obtain ⟨t',rfl⟩:=ry;exact eq_str (wd I q vn)
  | _=>exact absurd (show false=true from hs) za
 | JX i=>
  obtain ⟨t,rfl⟩:=rx;cases y with
  | JX j=>obtain ⟨t',rfl⟩:=ry;exact PySem.W.eq_bytes (wd I q vp)
  | _=>exact absurd (show false=true from hs) za
 | _=>cases y <;> exact absurd (show false=true from hs) za
theorem gu:gE X (compareOp .NotEq) VS:=by
 intro ai s σ H x y v u Q I rx ry h;obtain ⟨hs,q⟩:=h;cases x with
 | bF=>
  cases rx;cases y with
  | bF=>cases ry;exact PySem.EqNone.ne_none_none (wd I q (by simp))
  | bl j=>cases ry;exact PySem.EqNone.ne_none_bool (wd I q (by simp))
  | int j=>obtain ⟨t',rfl⟩:=ry;exact PySem.EqNone.ne_none_int (wd I q (by simp))
  | str j=>obtain ⟨t',rfl⟩:=ry;exact PySem.EqNone.ne_none_str (wd I q (by simp))
  | _=>exact absurd (show false=true from hs) za
 | bl i=>
  cases rx;cases y with
  | bF=>cases ry;exact PySem.EqNone.ne_bool_none (wd I q (by simp))
  | bl j=>cases ry;exact ne_bool (wd I q (congrArg not Mc))
  | str j=>obtain ⟨t',rfl⟩:=ry;exact PySem.EqMixed.ne_bool_str (wd I q (by simp))
  | _=>exact absurd (show false=true from hs) za
 | int i=>
  obtain ⟨t,rfl⟩:=rx;cases y with
  | bF=>cases ry;exact PySem.EqNone.ne_int_none (wd I q (by simp))
  | int j=>obtain ⟨t',rfl⟩:=ry;exact ne_int (wd I q (congrArg not vo))
  | str j=>obtain ⟨t',rfl⟩:=ry;exact PySem.EqMixed.ne_int_str (wd I q (by simp))
  | _=>exact absurd (show false=true from hs) za
 | str i=>
  obtain ⟨t,rfl⟩:=rx;cases y with
  | bF=>cases ry;exact PySem.EqNone.ne_str_none (wd I q (by simp))
  | bl j=>cases ry;exact PySem.EqMixed.ne_str_bool (wd I q (by simp))
  | int j=>obtain ⟨t',rfl⟩:=ry;exact PySem.EqMixed.ne_str_int (wd I q (by simp))
  | str j=>obtain ⟨t',rfl⟩:=ry;exact ne_str (wd I q (congrArg not vn))
  | _=>exact absurd (show false=true from hs) za
 | JX i=>
  obtain ⟨t,rfl⟩:=rx;cases y with
  | JX j=>obtain ⟨t',rfl⟩:=ry;exact PySem.W.ne_bytes (wd I q (congrArg not vp))
  | _=>exact absurd (show false=true from hs) za
 | _=>cases y <;> exact absurd (show false=true from hs) za
theorem cu:gE X (compareOp .Lt) (JQ λi j=>.bl (decide (i < j))):=NP λ_ _ _ _ _ _ _ q=>lt_int q
theorem cR:gE X (compareOp .LtE) (JQ λi j=>.bl (decide (i<=j))):=NP λ_ _ _ _ _ _ _ q=>le_int q
theorem fG:gE X (compareOp .Gt) (JQ λi j=>.bl (decide (j < i))):=NP λ_ _ _ _ _ _ _ q=>gt_int q
theorem pQ:gE X (compareOp .GtE) (JQ λi j=>.bl (decide (j<=i))):=NP λ_ _ _ _ _ _ _ q=>ge_int q
theorem av (b:Expr){op:CmpOp}(h:op≠.In:=by decide)(h2:op≠.NotIn:=by decide):behindInMarks op b=false:=by
 have e1:(op == CmpOp.In)=false:=by cases op <;> first | rfl | exact absurd rfl h
 have e2:(op == CmpOp.NotIn)=false:=by cases op <;> first | rfl | exact absurd rfl h2
 cases b <;> simp [behindInMarks,e1,e2]
theorem wf {op:CmpOp}{r:R2}(ho:gE X (compareOp op) r)(ha:PE X a ta)(hb:PE X b tb)(hm:behindInMarks op b=false):PE X (.Compare a [op] [b] pos) (PU r ta tb):=by intro ai s σ H Q I h;exact wpAny_Compare1 (Rw ha hb I h λv u s2 x y H2 I2 rx ry q=>ho ai s2 σ H2 x y v u Q I2 rx ry q) hm
def oQ (t:TE):TT:=fun σ H Q=>t σ H λx H'=>∃ k,x=.bl k/\Q k H'
theorem xp {op:CmpOp}{r:R2}(ho:gE X (compareOp op) r)(ha:PE X a ta)(hb:PE X b tb)(hm:behindInMarks op b=false):PT X (.Compare a [op] [b] pos) (oQ (PU r ta tb)):=by intro ai s σ H Q I h;refine wpAny_isTrue_Compare1 (aZ (ha ai s σ H _ I h) λv s1 Xk=>?_) hm;obtain ⟨x,H1,I1,r1,q1⟩:=Xk;refine aZ (hb ai s1 σ H1 _ I1 q1) λu s2 Xj=>?_;obtain ⟨y,H2,I2,r2,q2⟩:=Xj;refine aZ (ho ai s2 σ H2 x y v u _ I2 r1 r2 q2) λc s3 Xi=>?_;obtain ⟨z,H3,I3,r3,k,e,q3⟩:=Xi;subst e;cases r3;exact wpAny_truthy_bool ⟨H3,I3,q3⟩
def jQ (r r':R2)(ta tb tc:TE):TE:=fun σ H Q=>ta σ H λx H1=>tb σ H1 λy H2=>r x y H2 λz H3=>∃ k,z=.bl k /\
 (if k=true then tc σ H3 λw' H4=>r' y w' H4 Q else Q (.bl false) H3)
theorem pM {op QA:CmpOp}{r r':R2}(ho:gE X (compareOp op) r)(tK:gE X (compareOp QA) r')(ha:PE X a ta)(hb:PE X b tb)(hc:PE X c tc)
  (hm:lastMarks [op,QA] [b,c]=false:=by with_unfolding_all rfl):PE X (.Compare a [op,QA] [b,c] pos) (jQ r r' ta tb tc):=by
 intro ai s σ H Q I h;refine Compare_chain (aZ (ha ai s σ H _ I h) λv s1 Xh=>?_) hm;obtain ⟨x,H1,I1,r1,q1⟩:=Xh;refine chain_link (aZ (hb ai s1 σ H1 _ I1 q1) λu s2 Xg=>?_);obtain ⟨y,H2,I2,r2,q2⟩:=Xg;refine aZ (ho ai s2 σ H2 x y v u _ I2 r1 r2 q2) λd s3 Xf=>?_;obtain ⟨z,H3,I3,r3,k,e,q3⟩:=Xf;subst e;cases r3;refine wpAny_truthy_bool ?_;cases k with
 | false=>exact ite_ff ⟨.bl false,H3,I3,rfl,q3⟩
 | true=>exact ite_tt (chain_last (aZ (hc ai s3 σ H3 _ I3 q3) λw' s4 ⟨z',H4,I4,r4,q4⟩=>tK ai s4 σ H4 y z' u w' Q I4 r2 r4 q4))
theorem ir {op QA:CmpOp}{r r':R2}(ho:gE X (compareOp op) r)(tK:gE X (compareOp QA) r')(ha:PE X a ta)(hb:PE X b tb)(hc:PE X c tc)
  (hm:lastMarks [op,QA] [b,c]=false:=by with_unfolding_all rfl):PT X (.Compare a [op,QA] [b,c] pos) (oQ (jQ r r' ta tb tc)):=by
 intro ai s σ H Q I h;refine isTrue_chain (aZ (ha ai s σ H _ I h) λv s1 Xe=>?_) hm;obtain ⟨x,H1,I1,r1,q1⟩:=Xe;refine test_link (aZ (hb ai s1 σ H1 _ I1 q1) λu s2 Xd=>?_);obtain ⟨y,H2,I2,r2,q2⟩:=Xd;refine aZ (ho ai s2 σ H2 x y v u _ I2 r1 r2 q2) λd s3 Xc=>?_;obtain ⟨z,H3,I3,r3,k,e,q3⟩:=Xc;subst e;cases r3;refine wpAny_truthy_bool ?_;cases k with
 | false=>
  obtain ⟨k',e',q'⟩:=q3;cases e';exact ite_ff ⟨H3,I3,q'⟩
 | true=>
  refine ite_tt (test_last (aZ (hc ai s3 σ H3 _ I3 q3) λw' s4 Xb=>?_));obtain ⟨z',H4,I4,r4,q4⟩:=Xb;refine aZ (tK ai s4 σ H4 y z' u w' _ I4 r2 r4 q4) λd' s5 Xa=>?_;obtain ⟨z2,H5,I5,r5,k2,e2,q5⟩:=Xa;subst e2;cases r5;exact wpAny_truthy_bool ⟨H5,I5,q5⟩
theorem kD:(sizeLine:Nat) < 2 ^ 63:=by rw [sizeLine_eq];decide
theorem vals1 {x:V}{us:List Value}(r:Vals [x] us):∃ u,us=[u]/\RelV x u:=by
 cases r with
 | cons r1 r2=>cases r2;exact ⟨_,rfl,r1⟩
theorem vals2 {x y:V}{us:List Value}(r:Vals [x,y] us):∃ u w',us=[u,w']/\RelV x u/\RelV y w':=by
 cases r with
 | cons r1 r2=>
  cases r2 with
  | cons r3 r4=>cases r4;exact ⟨_,_,rfl,r1,r3⟩
theorem mQ (hc:X.calm=true):cD X (.builtin "max") (λxs H Q=>∃ i j,xs=[.int i,.int j]/\Q (.int (if j > i then j else i)) H):=by
 intro ai s σ H xs us Q I r h;obtain ⟨i,j,rfl,q⟩:=h;obtain ⟨u,w',rfl,⟨t,rfl⟩,⟨t',rfl⟩⟩:=vals2 r;refine max_two_ints (I.ok.hd hc) λh' tk k=>⟨_,H,I.kept k,?_,q⟩;by_cases hj:j > i
 ·rw [if_pos hj,if_pos hj];exact ⟨_,rfl⟩
 ·rw [if_neg hj,if_neg hj];exact ⟨_,rfl⟩
theorem dD (hc:X.calm=true):cD X (.builtin "min") (λxs H Q=>∃ i j,xs=[.int i,.int j]/\Q (.int (if j < i then j else i)) H):=by
 intro ai s σ H xs us Q I r h;obtain ⟨i,j,rfl,q⟩:=h;obtain ⟨u,w',rfl,⟨t,rfl⟩,⟨t',rfl⟩⟩:=vals2 r;refine min_two_ints (I.ok.hd hc) λh' tk k=>⟨_,H,I.kept k,?_,q⟩;by_cases hj:j < i
 ·rw [if_pos hj,if_pos hj];exact ⟨_,rfl⟩
 ·rw [if_neg hj,if_neg hj];exact ⟨_,rfl⟩
theorem dF:cD X (.type "int") (λxs H Q=>(∃ i,xs=[.int i]/\Q (.int i) H)\/∃ k,xs=[.bl k]/\Q (.int (if k then 1 else 0)) H):=by
 intro ai s σ H xs us Q I r h;rcases h with ⟨i,rfl,q⟩ | ⟨k,rfl,q⟩
 ·obtain ⟨u,rfl,t,rfl⟩:=vals1 r;exact call_int_int ⟨.int i,H,I,⟨_,rfl⟩,q⟩
 ·obtain ⟨u,rfl,r1⟩:=vals1 r;cases r1;exact call_int_bool ⟨.int (if k then 1 else 0),H,I.tok _,⟨_,rfl⟩,q⟩
end
structure RH (h:Heap) (x dx C:Addr) (mA:Str->Option Value):Prop where
 obj:h.get? x=some (PySem.W.instObj C dx)
 ns:h.Ns1 dx mA
 ne:dx≠x
theorem Je {h:Heap}{dx:Addr}{mA:Str->Option Value}(n:h.Ns1 dx mA):∃ od,h.get? dx=some od/\∀ name,PySem.W.lookIn name od=some (mA name):=by
 obtain ⟨o,es,ep,ho,hd,hk,_,hm⟩:=n;refine ⟨o,ho,λname=>?_⟩;have e:=hm name;unfold nsFind findBy at e;rw [<-Array.find?_toList] at e;unfold PySem.W.lookIn;rw [hd];dsimp only;split
 ·rename_i y q;rw [q] at e;exact congrArg some e
 ·rename_i q;rw [q] at e;have a:es.toList.any (·.refKey)=false:=by
   rw [List.any_eq_false];intro y hy;obtain ⟨z,t,aai⟩:=hk y (Array.mem_toList_iff.mp hy);simp [DictEntry.refKey,aai]
  have a':¬ es.toList.any (·.refKey)=true:=by rw [a];exact za
  rw [if_neg a'];exact congrArg some e
theorem RH.look {h:Heap}{x dx C:Addr}{mA:Str->Option Value}(I:RH h x dx C mA):∃ od,PySem.W.InstAt h x (PySem.W.instObj C dx) C (some od)/\∀ name,PySem.W.lookIn name od=some (mA name):=
 let ⟨od,ho,hl⟩:=Je I.ns
 ⟨od,⟨I.obj,rfl,rfl,ho⟩,hl⟩
section
variable {prog:Program}{w:World}{A:Around}{E:Value->Shared->Prop}{s:Shared}{K:PySem.W.Frag}{x dx C f:Addr}{mA:Str->Option Value}{name:Str}{v:Value}
end
section
variable {P:Program}{w:World}{H H':Hp}{h h':Heap}{a C dx:Addr}{fs fs':List (Str×V)}
theorem N6 (bh:gS P w H h)(e:H a=some (.ins C dx fs)):∃ mA,RH h a dx C mA/\(∀ f,RC (fs.lookup f) (mA f))/\PySem.Within mA (fs.map (·.1))/\fs.length<=1000/\H dx=some (.own a):=by obtain ⟨d,z,ne,ob,mA,n,r,q⟩:=(show bA P w H h a (.ins C dx fs) from bh a _ e);exact ⟨mA,⟨ob,n,ne⟩,r,q,z,d⟩
end
structure Cls (K:PySem.W.Frag) (C:Addr):Prop where
 pg:PySem.W.plainGet K C Str.empty=true
 hd:PySem.W.hasDictIn K C=true
 po:PySem.W.plainOver K C=true
 sa:PySem.W.findIn K (.ref C) "__setattr__" = some (some (.builtin "object.__setattr__"))
theorem Cls.get {K:PySem.W.Frag}{C:Addr}(c:Cls K C)(f:Str):PySem.W.plainGet K C f=true:=c.pg
section
variable {X:Cx}{ai:List (Addr×Obj)}{σ:St}{H:Hp}{s:Shared}{a C dx:Addr}{fs:List (Str×V)}{f:Str}{v:V}{A:Around}{E:Value->Shared->Prop}
end
section
variable {X:Cx}{o e value:Expr}{f:Str}{pos pos' PL:Pos}{ta tv:TE}
end
section
variable {X:Cx}{ai:List (Addr×Obj)}{σ:St}{H:Hp}{s:Shared}{A:Around}{E:Value->Shared->Prop}{Q:Value->Shared->Prop}{c:Value}{b:Bool}
inductive jd (K:PySem.W.Frag) (H:Hp):V->Value->Prop where
 | bF:jd K H .bF (.type "NoneType")
 | bl (x:Bool):jd K H (.bl x) (.type "bool")
 | int (i:Int):jd K H (.int i) (.type "int")
 | str (x:Str):jd K H (.str x) (.type "str")
 | Ro (x:UInt64):jd K H (.Ro x) (.type "float")
 | lst {a:Addr}{xs:List V} (e:H a=some (.lst xs)):jd K H (.ref a) (.type "list")
 | qz {a:Addr}{o:Obj}{xs:List V} (e:H a=some (.qz o (.lst xs))):jd K H (.ref a) (.type "list")
 | tup {a:Addr}{xs:List V} (e:H a=some (.tup xs)):jd K H (.ref a) (.type "tuple")
 | dK {a:Addr}{iF:List (Key×V)} (e:H a=some (.dK iF)):jd K H (.ref a) (.type "dict")
 | dT {a:Addr}{iF:List (List Key×V)} (e:H a=some (.dT iF)):jd K H (.ref a) (.type "dict")
 | ins {a C dx:Addr}{fs:List (Str×V)} (e:H a=some (.ins C dx fs)) (cl:Cls K C) (ha:PySem.W.findIn K (.ref C) "__class__" = some (some (.builtin "object.__class__")))
   (hn:PySem.W.specialIn K (.builtin "object.__class__") "__get__" = some (some (.builtin "getset_descriptor.__get__"))) (htk:PySem.W.takesIn K (.builtin "object.__class__")=some true)
   (hm:PySem.W.mroIn K C (.type "object")=some true):jd K H (.ref a) (.ref C)
theorem Jm {x:V}{u t:Value}(I:Inv X ai σ H s)(rx:RelV x u)(ty:jd X.K H x t)(e:PySem.W.kitOne X.K t c=some b)(h:∀ tk,Q (.bool b) { s with toks:=tk }) :
  wpAny (model X.prog X.w) A (call (.builtin "isinstance") [u,c]) Q E s:=by
 cases ty with
 | bF=>cases (show u=Value.none from rx);exact yX PySem.W.kitx_none I.p8 True.intro e (λz=>nomatch z) h
 | bl y=>cases (show u=Value.bool y from rx);exact yX PySem.W.kitx_bool I.p8 True.intro e (λz=>nomatch z) h
 | int i=>obtain ⟨t,q⟩:=(show ∃ t,u=Value.int i t from rx);cases q;exact yX PySem.W.kitx_int I.p8 True.intro e (λz=>nomatch z) h
 | str y=>obtain ⟨t,q⟩:=(show ∃ t,u=Value.str y t from rx);cases q;exact yX PySem.W.kitx_str I.p8 True.intro e (λz=>nomatch z) h
 | Ro y=>obtain ⟨t,q⟩:=(show ∃ t,u=Value.float y t from rx);cases q;exact yX PySem.W.kitx_float I.p8 True.intro e (λz=>nomatch z) h
 | @lst a xs ea=>
  cases (show u=Value.ref a from rx);obtain ⟨_,_,n,_,h1⟩:=(show bA X.prog X.w H s.heap a (.lst xs) from I.bh a _ ea);exact yX PySem.W.kitx_list I.p8 ⟨_,h1,rfl⟩ e (λz=>nomatch z) h
 | @qz a ob xs ea=>
  cases (show u=Value.ref a from rx);obtain ⟨_,_,_,n,_,h1⟩:=(show bA X.prog X.w H s.heap a (.qz ob (.lst xs)) from I.bh a _ ea);exact yX PySem.W.kitx_list I.p8 ⟨_,h1,rfl⟩ e (λz=>nomatch z) h
 | @tup a xs ea=>
  cases (show u=Value.ref a from rx);obtain ⟨_,_,_,p⟩:=(show bA X.prog X.w H s.heap a (.tup xs) from I.bh a _ ea);obtain ⟨o,h1,h2,_⟩:=p;exact yX PySem.W.kitx_tuple I.p8 ⟨o,h1,h2⟩ e (λz=>nomatch z) h
 | @dK a iF ea=>
  cases (show u=Value.ref a from rx);obtain ⟨_,_,vs,_,p⟩:=(show bA X.prog X.w H s.heap a (.dK iF) from I.bh a _ ea);obtain ⟨o,es,ep,h1,h2,_⟩:=p;exact yX PySem.W.kitx_dict I.p8 ⟨o,h1,h2.1⟩ e (λz=>nomatch z) h
 | @dT a iF ea=>
  cases (show u=Value.ref a from rx);obtain ⟨_,_,xs,_,o,es,ep,h1,h2,_⟩:=(show bA X.prog X.w H s.heap a (.dT iF) from I.bh a _ ea);exact yX PySem.W.kitx_dict I.p8 ⟨o,h1,h2.1⟩ e (λz=>nomatch z) h
 | @ins a C dx fs ea cl ha hn htk hm=>
  cases (show u=Value.ref a from rx);obtain ⟨mA,O,_⟩:=N6 I.bh ea;obtain ⟨od,J,_⟩:=O.look;exact yX (PySem.W.kitx_own (cl.get _) cl.hd ha hn htk hm) I.p8 J e (λz=>nomatch z) h
end
structure fV (k:Nat) (A:Around):Prop where
 hd:A.handled=none
 dp:A.depth + 3 * k + 5 < recursionLimit
 un:A.units + 16 * k + 200 < cLine
 gd:A.guards=some []
theorem fV.mono {j k:Nat}{A:Around}(r:fV k A)(h:j<=k):fV j A:=⟨r.hd,by have:=r.dp;omega,by have:=r.un;omega,r.gd⟩
theorem fV.deeper {k:Nat}{A:Around}(r:fV (k + 1) A)(env:Env):fV k (A.deeper env):=
 ⟨r.hd,by have:=r.dp;show A.depth + 1 + 3 * k + 5 < _;omega,by have:=r.un;show A.units + 3 + 16 * k + 200 < _;omega,r.gd⟩
theorem fV.depth {k:Nat}{A:Around}(r:fV k A):A.depth < recursionLimit:=by have:=r.dp;omega
theorem fV.units {k:Nat}{A:Around}(r:fV k A):A.units + 64 < cLine:=by have:=r.un;omega
def Kh:TA:=λ_ H Q=>Q [] H
def oS (ta:TE)(tr:TA):TA:=fun σ H Q=>ta σ H λx H1=>tr σ H1 λxs H2=>Q (x::xs) H2
section
variable {X:Cx}{e:Expr}{es:List Expr}{te:TE}{t:TA}{pos:Pos}
theorem qU:PA X [] Kh:=λ_ _ _ _ H Q I h=>Calls.spliced_nil ⟨[],H,I,.nil,h⟩
theorem NO (ha:PE X e te)(hr:PA X es t)(hs:starEach (e::es) X.env=(false,eval e X.env)::starEach es X.env:=by rfl):PA X (e::es) (oS te t):=by intro pos ai s σ H Q I h;rw [hs];show wpAny _ _ (spliced ((false,eval e X.env)::backTo pos (starEach es X.env))) _ _ s;refine Calls.spliced_cons (aZ (ha ai s σ H _ I h) λu s1 W0=>?_);obtain ⟨x,H1,I1,r1,q1⟩:=W0;exact aZ (hr pos ai s1 σ H1 _ I1 q1) λus s2 ⟨xs,H2,I2,r2,q2⟩=>⟨x::xs,H2,I2,.cons r1 r2,q2⟩
def M3 (t:TA):TE:=fun σ H Q=>t σ H λxs H1=>xs.length<=sizeLine/\∀ p,H1 p=none->Q (.ref p) (upd H1 p (.tup xs))
def M7 (t:TA):TE:=fun σ H Q=>t σ H λxs H1=>xs.length<=sizeLine/\∀ p,H1 p=none->Q (.ref p) (upd H1 p (.lst xs))
theorem wS {x1}(h:PA X es t):PE X (.Tuple es x1 pos) (M3 t):=by intro ai s σ H Q I hq;refine wpAny_Tuple_spliced (aZ (h pos ai s σ H _ I hq) λus s1 WZ=>?_);obtain ⟨xs,H1,I1,r,z,q⟩:=WZ;refine ⟨by rw [<-r.length];exact z,?_⟩;have hf:H1 s1.heap.objs.size=none:=I1.bh.fresh (zJ _);refine ⟨.ref s1.heap.objs.size,upd H1 s1.heap.objs.size (.tup xs),I1.laid (t':=s1.toks) (λb u e=>Heap.get?_push_of_some _ e) (zJ _) ?_,rfl,q _ hf⟩;exact ⟨⟨z,kB⟩,us,r,⟨_,Heap.get?_push_size _ rfl,rfl,_,rfl⟩⟩
theorem xw (h:PA X es t):PE X (.List es pos) (M7 t):=by intro ai s σ H Q I hq;refine wpAny_List_spliced (aZ (h pos ai s σ H _ I hq) λus s1 WY=>?_);obtain ⟨xs,H1,I1,r,z,q⟩:=WY;refine ⟨by rw [<-r.length];exact z,?_⟩;have hf:H1 s1.heap.objs.size=none:=I1.bh.fresh (zJ _);refine ⟨.ref s1.heap.objs.size,upd H1 s1.heap.objs.size (.lst xs),I1.laid (t':=s1.toks) (λb u e=>Heap.get?_push_of_some _ e) (zJ _) ?_,rfl,q _ hf⟩;exact ⟨z,us,0,r,Heap.get?_push_size _ rfl⟩
end
abbrev Sp:=List V->Hp->VK->XK->Prop
abbrev Mx:=List Env->Hp->Shared->XK->Value->Shared->Prop
structure Oz (P:Program) (w:World) (K:PySem.W.Frag) (mg:Str->Option Value) (base:Heap) (A:Around) (outer:List Env) (s:Shared) (H:Hp):Prop where
 frames:A.frames=some outer
 mod:Mod K mg base
 bs:∀ b o,base.get? b=some o->s.heap.get? b=some o/\H b=none
 Mk:base.objs.size<=s.heap.objs.size
 kP:s.heap.FunFrames base outer
 Sj:∀ b∈Jy outer,H b=none
 bh:gS P w H s.heap
 bare:AllBare s.gens
def CE (outer:List Env)(P:Program)(w:World)(H:Hp)(s:Shared)(Q:VK)(u:Value)(s':Shared):Prop:=
 ∃ v H',s'.os=s.os/\AllBare s'.gens/\Un (Jy outer) [] H H' s.heap s'.heap/\gS P w H' s'.heap/\RelV v u/\Q v H'
def CR (CX:Mx)(outer:List Env)(P:Program)(w:World)(H:Hp)(s:Shared)(Q:VK)(E:XK)(r:Result)(s':Shared):Prop:=
 match r with
 | .ok (.ret u)=>CE outer P w H s Q u s'
 | .ok _=>False
 | .error e=>CX outer H s E e s'
structure aW (P:Program) (w:World) (K:PySem.W.Frag) (mg:Str->Option Value) (base:Heap) (CX:Mx) (k:Nat) (f:Addr) (fd:FuncData) (ps:List Str) (sp:Sp):Prop where
 len:∀ vs H Q E,sp vs H Q E->vs.length=ps.length
 run:∀ (A:Around) (outer:List Env) (s:Shared) (H:Hp) (args:Args) (us:List Value) (vs:List V) (Q:VK) (E:XK),fV k A->Oz P w K mg base A outer s H->BindsTo s fd args (ps.zip us)->Vals vs us->sp vs H Q E ->
  codeAny (model P w) A (.call (.ref f) args) (CR CX outer P w H s Q E) s
section
variable {X:Cx}{ai:List (Addr×Obj)}{σ:St}{H:Hp}{s s':Shared}
theorem Inv.aaO (I:Inv X ai σ H s):Oz X.prog X.w X.K X.mg X.base X.A X.stack s H:=
 ⟨I.ok.frames,I.ok.mod,I.bs,yG I.ok.Mk I.sz,I.stack,I.nA,I.bh,I.bare⟩
theorem Inv.after {Q:VK}{u:Value}(I:Inv X ai σ H s)(h:CE X.stack X.prog X.w H s Q u s'):EP X ai σ Q u s':=by obtain ⟨v,H',os,bare,un,bh,r,q⟩:=h;obtain ⟨hh,g,d,t,YH⟩:=s';obtain rfl:YH=s.os:=os;exact ⟨v,H',I.call (h':=hh) (g':=g) (d':=d) (t':=t) (ch:=[]) un bh bare (λb z=>absurd z (by simp)),r,q⟩
end
def uh (sp:Sp)(Pd:List V)(E:XK)(t:TA):TE:=fun σ H Q=>t σ H λvs H1=>sp (vs++Pd) H1 Q E
def Binds (K:PySem.W.Frag)(fd:FuncData)(ps:List Str)(ds:List Value):Prop:=
 ∀ (s:Shared) (us:List Value),K.In s.heap->(us++ds).length=ps.length->BindsTo s fd ⟨us,[]⟩ (ps.zip (us++ds))
theorem Binds.all {K:PySem.W.Frag}{fd:FuncData}{ps:List Str}(h:∀ us:List Value,us.length=ps.length->bindArgs fd ⟨us,[]⟩=pure (ps.zip us)):Binds K fd ps []:=λs us _ hl=>by
 rw [zO] at hl ⊢;exact .of_eq (h us hl)
def Passes (CX:Mx)(X:Cx)(E:XK):Prop:=∀ (ai:List (Addr×Obj)) (σ:St) (H:Hp) (s:Shared) (e:Value) (s':Shared),Inv X ai σ H s->CX X.stack H s E e s'->X.xe e s'
section
variable {X:Cx}{CX:Mx}{k:Nat}{f C:Addr}{fd:FuncData}{ps:List Str}{sp:Sp}{Pd:List V}{ds:List Value}{E:XK}{x m:Str}{p pos apos:Pos}{e o:Expr}{es:List Expr}{ta:TE}{t:TA}
theorem Qi {ai:List (Addr×Obj)}{σ:St}{H:Hp}{s:Shared}{Q:VK}{us:List Value}{vs:List V}(F:aW X.prog X.w X.K X.mg X.base CX k f fd ps sp)(hr:fV k X.A)(hb:Binds X.K fd ps ds)(hd:Vals Pd ds)(hx:Passes CX X E)
  (I:Inv X ai σ H s) (r:Vals vs us) (h:sp (vs++Pd) H Q E):wpAny (model X.prog X.w) X.A (call (.ref f) us) (EP X ai σ Q) X.xe s:=by
 have r2:Vals (vs++Pd) (us++ds):=r.append hd;have hl:(us++ds).length=ps.length:=by rw [<-r2.length];exact F.len _ _ _ _ h
 refine wpAny_call (codeAny_mono (F.run X.A X.stack s H ⟨us,[]⟩ (us++ds) (vs++Pd) Q E hr I.aaO (hb s us I.p8 hl) r2 h) λr s' hq=>?_);cases r with
 | error e=>exact hx ai σ H s e s' I hq
 | ok fl=>
  cases fl with
  | ret u=>exact I.after hq
  | next=>exact False.elim hq
  | brk=>exact False.elim hq
  | cont=>exact False.elim hq
theorem xZ (F:aW X.prog X.w X.K X.mg X.base CX k f fd ps sp)(hr:fV k X.A)(hg:Gl X x)(hm:X.mg x=some (.ref f))(hk:zY X.K (.ref f)=true)(hb:Binds X.K fd ps ds)(hd:Vals Pd ds)(hx:Passes CX X E)
  (ha:PA X (e::es) t) (UR:(x == ("__debug__" : Str))=false:=by decide) (he:starEach (e::es) X.env=(false,eval e X.env)::starEach es X.env:=by rfl) (Q8:(backTo pos (starEach es X.env)).any (·.1)=false:=by rfl) :
  PE X (.Call (.Name x p) (e::es) [] pos) (uh sp Pd E t):=by
 intro ai s σ H Q I h;refine wpAny_Call_Name_kw (NZ I hg hm ?_ UR);refine PySem.W.callWith_K (h₀:=X.base) I.ok.mod.Zw hk (aZ (ha pos ai s σ H _ I h) λus s1 WX=>?_) he Q8;obtain ⟨vs,H1,I1,r,q⟩:=WX;refine ⟨I1.p8,?_⟩;exact Qi F hr hb hd hx I1 r q
end
section
variable {X:Cx}{CX:Mx}{k:Nat}{f C:Addr}{fd:FuncData}{ps ks:List Str}{sp:Sp}{E:XK}{x m:Str}{p pos apos aeo:Pos}{e o:Expr}{es:List Expr}{kws:List Keyword}{te ta:TE}{t tk:TA}{nm:Option Str}
variable {g:List Value->List Value->List Value}{gV:List V->List V->List V}
end
structure aF (N P:List Str) (sc:Scope):Prop where
 kind:sc.kind=.function
 co:sc.isCoroutine=false
 gen:sc.isGenerator=false
 nd:N.Nodup
 pre:N.take P.length=P
 par:∀ x∈P,sc.names.lookup x=some .local\/sc.names.lookup x=some .cell
 QD:∀ y∈sc.names,y.2≠.free
theorem mR {kindOf:Str->Option NameKind}{x:Str}:∀ {binds:List (Str×Value)}{m:Str->Option Value},(∀ v,(x,v) ∉ binds)->bindL kindOf binds m x=m x
 | [],_,_=>rfl
 | (n,v)::r,m,h=>by
  unfold bindL;rw [mR λw hw=>h w (zc _ hw)];split
  ·have:x≠n:=by rintro rfl;exact h v zo
   simp [this]
  ·rfl
theorem mT {kindOf:Str->Option NameKind}{x:Str}:∀ {binds:List (Str×Value)}{m:Str->Option Value},(∀ v,(x,v) ∉ binds)->bindC kindOf binds m x=m x
 | [],_,_=>rfl
 | (n,v)::r,m,h=>by
  unfold bindC;rw [mT λw hw=>h w (zc _ hw)];split
  ·rfl
  ·have:x≠n:=by rintro rfl;exact h v zo
   simp [this]
theorem mS {kindOf:Str->Option NameKind}{x:Str}{v:Value}:∀ {P:List Str}{vs:List Value}{i:Nat}{m:Str->Option Value},P.Nodup->P[i]?=some x->vs[i]?=some v->kindOf x=some .local ->
  bindL kindOf (P.zip vs) m x=some v
 | [],_,_,_,_,h,_,_=>by simp at h
 | _::_,[],_,_,_,_,h,_=>by simp at h
 | p::P,w::vs,0,m,nd,h1,h2,hk=>by
  simp at h1 h2;subst h1;subst h2;show bindL kindOf ((p,w)::P.zip vs) m p=_;unfold bindL;rw [mR λv hv=>(xH.mp nd).1 (List.of_mem_zip hv).1,if_pos hk];simp
 | p::P,w::vs,i + 1,m,nd,h1,h2,hk=>by
  show bindL kindOf ((p,w)::P.zip vs) m x=_;unfold bindL;exact mS (i:=i) (xH.mp nd).2 (by simpa using h1) (by simpa using h2) hk
theorem mU {kindOf:Str->Option NameKind}{x:Str}{v:Value}:∀ {P:List Str}{vs:List Value}{i:Nat}{m:Str->Option Value},P.Nodup->P[i]?=some x->vs[i]?=some v->kindOf x≠some .local ->
  bindC kindOf (P.zip vs) m x=some v
 | [],_,_,_,_,h,_,_=>by simp at h
 | _::_,[],_,_,_,_,h,_=>by simp at h
 | p::P,w::vs,0,m,nd,h1,h2,hk=>by
  simp at h1 h2;subst h1;subst h2;show bindC kindOf ((p,w)::P.zip vs) m p=_;unfold bindC;rw [mT λv hv=>(xH.mp nd).1 (List.of_mem_zip hv).1,if_neg hk];simp
 | p::P,w::vs,i + 1,m,nd,h1,h2,hk=>by
  show bindC kindOf ((p,w)::P.zip vs) m x=_;unfold bindC;exact mU (i:=i) (xH.mp nd).2 (by simpa using h1) (by simpa using h2) hk
def start (N:List Str)(vs:List V):St:=vs.map some++List.replicate (N.length - vs.length) none
def nZ (CX:Mx)(P:Program)(w:World)(K:PySem.W.Frag)(mg:Str->Option Value)(base:Heap)(N:List Str)(qual:Str)(scope:Scope)(f:Addr)(cd:Value)(A:Around)(outer:List Env)(s:Shared)(H:Hp)(E:XK):Cx where
 prog:=P
 w:=w
 K:=K
 mg:=mg
 base:=base
 A:=A.deeper (envOfC qual scope s.heap.objs.size f cd)
 N:=N
 c6:=s
 JJ:=H
 env:=envOfC qual scope s.heap.objs.size f cd
 outer:=outer
 stack:=envOfC qual scope s.heap.objs.size f cd::outer
 ex:=[]
 calm:=true
 fn:=λ_=>true
 pn:=[]
 xe:=λe s'=>wpAny (model P w) (A.deeper (envOfC qual scope s.heap.objs.size f cd)) (leaving (envOfC qual scope s.heap.objs.size f cd) e) (λ_ Nv=>CX outer H s E e Nv) (λe' Nv=>CX outer H s E e' Nv) s'
theorem rH {sc:Scope}{n:Nat}{x:Str}(h:sc.names.lookup x=some .cell):∃ c,(cellsFrom n sc.names []).lookup x=some c:=by have q:=PySem.W.cellsFrom_some sc.names n [] (.inl h);exact Option.isSome_iff_exists.mp q
theorem Jo {CX:Mx}{P:Program}{w:World}{K:PySem.W.Frag}{mg:Str->Option Value}{base:Heap}{N ps:List Str}{qual:Str}{scope:Scope}{f:Addr}{cd:Value}{A:Around}{outer:List Env}{s s1:Shared}{H:Hp}{E:XK}{us:List Value}{vs:List V}
  (S:aF N ps scope) (hd:A.handled=none) (e0:Oz P w K mg base A outer s H) (hl:vs.length=ps.length) (r:Vals vs us)
  (x:InCallC s s.heap.objs.size (bindL (envOfC qual scope s.heap.objs.size f cd).kindOf (ps.zip us) λ_=>none) (cellsFrom (s.heap.objs.size + 1) scope.names []) (bindC (envOfC qual scope s.heap.objs.size f cd).kindOf (ps.zip us) λ_=>none) s1) :
  Inv (nZ CX P w K mg base N qual scope f cd A outer s H E) [] (start N vs) H s1:=by
 have Q8:ps.length<=N.length:=by have:=congrArg List.length S.pre;rw [zR] at this;omega
 obtain ⟨h1,tk,rfl,hk⟩:=x.done;have Tn:∀ b:Addr,b ∉ (nZ CX P w K mg base N qual scope f cd A outer s H E).ex:=λb z=>absurd (show b∈([]:List Addr) from z) (by simp);refine ⟨⟨e0.mod,S.kind,rfl,rfl,zJ _,λy z c h1 h2=>?_,λy hy=>?_,λy c _ h=>?_,λ_=>hd,Around.frames_deeper e0.frames,.inr ⟨rfl,rfl⟩,λb z=>absurd z (Tn b),e0.bs,e0.Mk,λb _ _=>Tn b,λb z=>absurd z (Tn b),e0.kP,e0.Sj⟩,
  rfl,e0.bare,Un.kept hk,⟨_,x.toInCall.ns,λi y v h1 h2 h3=>?_⟩,λy c h=>⟨_,x.cell y c h⟩,e0.bh.fresh (zJ _),λy c h=>?_,λp hp=>absurd (show p∈([]:List (Addr×Obj)) from hp) (by simp),e0.bh.kept hk,?_⟩
 ·exact name_of_addr x.apart (zv h1) (zv h2)
 ·have hy:scope.names.lookup y=some .cell\/scope.names.lookup y=some .free:=hy;rcases hy with hy | hy
  ·exact rH hy
  ·exact absurd rfl (S.QD _ (zv hy))
 ·exact xA (x.above y c (zv h))
 ·have hi:i < vs.length:=by
   unfold start at h2;by_cases hi:i < vs.length
   ·exact hi
   ·rw [yL (by simpa using hi)] at h2;rw [yi] at h2;split at h2 <;> cases h2
  have ha:vs[i]?=some v:=by
   unfold start at h2;rw [yZ (by simpa using hi),zD] at h2;cases e:vs[i]? with
   | none=>rw [e] at h2;cases h2
   | some a=>rw [e] at h2;cases h2;rfl
  obtain ⟨u,hu,rv⟩:=r.get ha;have hp:ps[i]?=some y:=by
   rw [<-S.pre,List.getElem?_take_of_lt (by omega)];exact h1
  have ndP:ps.Nodup:=by rw [<-S.pre];exact S.nd.sublist (List.take_sublist _ _)
  refine ⟨u,rv,?_⟩;rcases S.par y (zC hp) with k | k
  ·exact .inl ⟨k,mS ndP hp hu k⟩
  ·obtain ⟨c,e⟩:=rH (n:=s.heap.objs.size + 1) k;refine .inr ⟨.inl k,c,e,?_⟩;have q:=x.cell y c e;rw [mU ndP hp hu (by show scope.names.lookup y≠_;rw [k];decide)] at q;exact q
 ·exact e0.bh.fresh (xA (x.above y c (zv h)))
 ·unfold start;show _=N.length;rw [zU,zA,yb];omega
theorem Vb {CX:Mx}{P:Program}{w:World}{K:PySem.W.Frag}{mg:Str->Option Value}{base:Heap}{k:Nat}{f:Addr}{name qual:Str}{params:Arguments}{body:List Stmt}{scope:Scope}{dV kV doc pm bO ct oc:Value}{an od:Option Addr}
  {OT:Array (Option Value)}{N ps:List Str}{sp:Sp} (lk:K.lookup f=some ⟨oc,od,.func (xO name qual params body scope dV kV doc pm an bO ct),OT⟩) (LJ:PySem.W.codeIn K bO qual=true) (S:aF N ps scope)
  (len:∀ vs H Q E,sp vs H Q E->vs.length=ps.length)
  (LK:∀ (A:Around) (outer:List Env) (s:Shared) (H:Hp) (vs:List V) (Q:VK) (E:XK),fV k (A.deeper (envOfC qual scope s.heap.objs.size f bO))->sp vs H Q E ->
   ∃ t,oE (nZ CX P w K mg base N qual scope f bO A outer s H E) body t/\t { nx:=λ_ H'=>Q .bF H',rt:=Q } (start N vs) H) :
  aW P w K mg base CX (k + 1) f (xO name qual params body scope dV kV doc pm an bO ct) ps sp:=by
 refine ⟨len,λA outer s H args us vs Q E hr e0 hb r O3=>?_⟩;have hl:=len _ _ _ _ O3;have KX:K.In s.heap:=e0.mod.Zw.keeps λb o e=>(e0.bs b o e).1;have lim:s.heap.NoLimit:=e0.mod.nolimit.keeps λb o e=>(e0.bs b o e).1;have UL:∀ y∈ps.zip us,scope.names.lookup y.1=some .local\/(scope.names.lookup y.1=some .cell/\((cellsFrom (s.heap.objs.size + 1) scope.names []).lookup y.1).isSome=true):=λ⟨n,v⟩ hy=>by
  rcases S.par n (List.of_mem_zip hy).1 with q | q
  ·exact .inl q
  ·exact .inr ⟨q,PySem.W.cellsFrom_some _ _ _ (.inl q)⟩
 refine codeAny_call_function hr.depth (KX _ _ lk) rfl S.co S.gen rfl (PySem.W.codeRec_of KX LJ) (hb _ _ _ _ ?_);refine wpAny_newFunctionEnv_cells S.kind UL λenv he s1 x=>?_;subst he;refine ⟨lim.keeps x.toInCall.keep,codeAny_func ?_⟩;obtain ⟨t,ht,hq⟩:=LK A outer s H vs Q E (hr.deeper _) O3;have I:Inv (nZ CX P w K mg base N qual scope f bO A outer s H E) [] (start N vs) H s1:=Jo S hr.hd e0 hl r x;refine wpAny_mono (ht [] s1 (start N vs) H _ I hq) (λfl s' hs=>?_) λe s' hs=>hs;have fin:∀ {bK:St}{H':Hp}{v:V}{u:Value},Inv (nZ CX P w K mg base N qual scope f bO A outer s H E) [] bK H' s'->RelV v u->Q v H'->CE outer P w H s Q u s':=
  λ{bK H' v u} J rv q=>⟨v,H',J.os,J.bare,J.base,J.bh,rv,q⟩
 cases fl with
 | ret u=>
  obtain ⟨v,bK,H',J,rv,q⟩:=hs;exact fin J rv q
 | next=>
  obtain ⟨bK,H',J,q⟩:=hs;exact fin (v:=V.bF) (u:=Value.none) J rfl q
 | brk=>
  obtain ⟨_,_,_,q⟩:=hs;exact False.elim q
 | cont=>
  obtain ⟨_,_,_,q⟩:=hs;exact False.elim q
section
variable {X:Cx}{x:Str}{p pos:Pos}{e:Expr}{es:List Expr}{t:TA}{id T:String}{r:List V->Hp->VK->Prop}
def Sz (r:List V->Hp->VK->Prop)(t:TA):TE:=fun σ H Q=>t σ H λvs H1=>r vs H1 Q
theorem xf (hc:cD X (.builtin id) r)(hg:Gl X x)(hm:X.mg x=none)(hv:bootBuiltins x=some (.builtin id))(ha:PA X (e::es) t)(hn:x ≠ "__name__" := by decide)(UR:(x == ("__debug__" : Str))=false:=by decide)
  (he:starEach (e::es) X.env=(false,eval e X.env)::starEach es X.env:=by rfl) (Q8:(backTo pos (starEach es X.env)).any (·.1)=false:=by rfl):PE X (.Call (.Name x p) (e::es) [] pos) (Sz r t):=by
 intro ai s σ H Q I h;refine wpAny_Call_Name_kw (fT I hg hm hv ?_ hn UR);exact PyProof.Rows.callWith_builtin1 (aZ (ha pos ai s σ H _ I h) λus s1 ⟨vs,H1,I1,r1,q1⟩=>hc ai s1 σ H1 vs us Q I1 r1 q1) he Q8
theorem wK (hc:cD X (.type T) r)(hg:Gl X x)(hm:X.mg x=none)(hv:bootBuiltins x=some (.type T))(ha:PA X (e::es) t)(hn:x ≠ "__name__" := by decide)(UR:(x == ("__debug__" : Str))=false:=by decide)
  (he:starEach (e::es) X.env=(false,eval e X.env)::starEach es X.env:=by rfl) (Q8:(backTo pos (starEach es X.env)).any (·.1)=false:=by rfl):PE X (.Call (.Name x p) (e::es) [] pos) (Sz r t):=by
 intro ai s σ H Q I h;refine wpAny_Call_Name_kw (fT I hg hm hv ?_ hn UR);exact yT (aZ (ha pos ai s σ H _ I h) λus s1 ⟨vs,H1,I1,r1,q1⟩=>hc ai s1 σ H1 vs us Q I1 r1 q1) he Q8
end
section
variable {κ:Type} [DecidableEq κ]
end
theorem Ui {P:Program}{w:World}{k:Key}{u:Value}(r:RelV (kV k) u):(cL P w).is k u=true:=by
 cases k with
 | inl i=>obtain ⟨t,e⟩:=(show ∃ t,u=Value.int i t from r);subst e;exact pX P w i t
 | inr x=>obtain ⟨t,e⟩:=(show ∃ t,u=Value.str x t from r);subst e;exact pW P w x t
theorem mw {P:Program}{w:World}:∀ {ks:List Key}{us:List Value},Vals (ks.map kV) us->ItemsAre (cL P w) ks us
 | [],_,r=>by rw [zg] at r;cases r;exact .nil
 | k::ks,_,r=>by
  rw [zI] at r;cases r with
  | cons h t=>exact .cons (Ui h) (mw t)
section
variable {P:Program}{w:World}{H:Hp}{h:Heap}{a:Addr}
theorem QU {ks:List Key}(ok:gS P w H h)(e:H a=some (.tup (ks.map kV))):(tupleKind (cL P w)).is h ks a:=by obtain ⟨_,aC,r,o,h1,h2,n,h3⟩:=(show bA P w H h a (.tup (ks.map kV)) from ok a _ e);exact ⟨o,aC.toArray,n,h1,h2,h3,by simpa using mw r⟩
end
section
variable {X:Cx}{ai:List (Addr×Obj)}{σ:St}{H:Hp}{s:Shared}{a:Addr}{y v:V}{u r:Value}{o:Option V}{A:Around}{E:Value->Shared->Prop}
theorem Inv.big (I:Inv X ai σ H s):sysModules < s.heap.objs.size:=by have h:mainGlobals < s.heap.objs.size:=(I.mod.glob.keeps I.bk).lt;exact Nat.lt_trans (by decide) h
end
section
variable {X:Cx}{ai:List (Addr×Obj)}{σ:St}{H:Hp}{s:Shared}{a:Addr}{iF:List (Key×V)}{k:Key}{u:Value}{A:Around}{E:Value->Shared->Prop}
end
section
variable {X:Cx}{o i e value:Expr}{pos pos' PL:Pos}{td ty tv:TE}
end
theorem Mb {P:Program}{w:World}{H:Hp}(h:Heap)(hb:sysModules < h.objs.size):bA P w H (h.push { cls:=.type "dict", data:=.dict #[] }) h.objs.size (.dK []):=
 ⟨zx _,beq_eq_false_iff_ne.mpr (Ne.symm (zt hb)),[],.nil,Heap.DictOf.new h⟩
def PV:TE:=λ_ H Q=>∀ p,H p=none->Q (.ref p) (upd H p (.dK []))
section
variable {X:Cx}{pos:Pos}
theorem K2:PE X (.Dict [] [] pos) PV:=λai s σ H Q I h=>
 wpAny_Dict_empty ⟨.ref s.heap.objs.size,_,I.laid (a:=s.heap.objs.size) (o:=.dK []) (t':=s.toks) (λ_ _ q=>Heap.get?_push_of_some _ q) (zJ _) (Mb s.heap I.big),rfl,h _ (I.bh.fresh (zJ _))⟩
end
section
variable {X:Cx}{ai:List (Addr×Obj)}{σ:St}{H:Hp}{s:Shared}{a:Addr}{y d:V}{u r:Value}{o:Option V}{A:Around}{E:Value->Shared->Prop}
end
section
variable {X:Cx}{o e f:Expr}{apos rB:Pos}{td ty tx:TE}
end
section
variable {X:Cx}{ai:List (Addr×Obj)}{σ:St}{H:Hp}{s:Shared}{a:Addr}{iF:List (Key×V)}{A:Around}{E:Value->Shared->Prop}
end
section
variable {X:Cx}{ai:List (Addr×Obj)}{σ:St}{H:Hp}{s:Shared}{a:Addr}{y:V}{u:Value}{A:Around}{E:Value->Shared->Prop}
end
end L2
namespace HT
open PySem PyProof.Rows
section
open PySem.SeqAt
open PySem.AutoSeq1 (wpAny_loadPart')
open PySem.MeetsSeq PySem.MeetsSeq2 PySem.MeetsSeq3
end
section
variable {prog:Program}{w:World}{A:Around}{E:Value->Shared->Prop}{s:Shared}
def bY (n d:Nat):Option Int->Nat
 | none=>d
 | some v=>if v < 0 then (v + (n:Int)).toNat else min v.toNat n
theorem uC (n d k:Nat):bY n d (some (k:Int))=min k n:=by show (if (k:Int) < 0 then ((k:Int) + (n:Int)).toNat else min (k:Int).toNat n)=min k n;rw [if_neg (by omega),yA]
theorem Qe (n d:Nat)(hd:d<=n)(o:Option Int):bY n d o<=n:=by
 cases o with
 | none=>exact hd
 | some v=>
  show (if v < 0 then (v + (n:Int)).toNat else min v.toNat n)<=n;by_cases hv:v < 0
  ·rw [if_pos hv];omega
  ·rw [if_neg hv];exact Nat.min_le_right _ _
theorem vv (v:Int)(n d:Nat):(if v < 0 then max (v + (n:Int)) 0 else min v (n:Int))=((bY n d (some v):Nat):Int):=by
 show (if v < 0 then max (v + (n:Int)) 0 else min v (n:Int))=(((if v < 0 then (v + (n:Int)).toNat else min v.toNat n):Nat):Int);by_cases hv:v < 0
 ·simp only [if_pos hv];omega
 ·simp only [if_neg hv];omega
theorem t7 (lo hi:Option Int)(n:Nat):Builtin.Slice.sliceAdjust lo hi 1 (n:Int)=(((bY n 0 lo:Nat):Int),((bY n n hi:Nat):Int)):=by
 have h1:¬ ((1:Int) < 0):=by omega
 unfold Builtin.Slice.sliceAdjust;simp only [h1,if_false];refine Prod.ext ?_ ?_
 ·cases lo with
  | none=>rfl
  | some v=>exact vv v n 0
 ·cases hi with
  | none=>rfl
  | some v=>exact vv v n n
theorem sQ (i j:Nat):Builtin.Slice.slicePlaces (i:Int) (j:Int) 1=j - i:=by
 unfold Builtin.Slice.slicePlaces;have h1:(1:Int) > 0:=by omega
 simp only [h1,if_true,Int.ediv_one];split <;> omega
theorem jU {v:Value}{o:Option Int}{Q:Option Int->Shared->Prop}(p:IsPart v o)(h:Q o s):wpAny (model prog w) A (Builtin.Slice.slicePartIndex v) Q E s:=by
 cases p with
 | none=>exact slicePart_none h
 | int i t=>exact slicePart_int h
theorem iX {sl:Addr}{vl vu:Value}{lo hi:Option Int}{n:Nat}{Q:Int×Int×Nat->Shared->Prop}(hs:s.heap.IsSliceOf sl vl vu .none)(pl:IsPart vl lo)(pu:IsPart vu hi)
  (h:Q (((bY n 0 lo:Nat):Int),1,bY n n hi - bY n 0 lo) s):wpAny (model prog w) A (Builtin.Slice.sliceApplied (.ref sl) (pure (n:Int))) Q E s:=by
 obtain ⟨os,UH,hcs,Ww⟩:=id hs;unfold Builtin.Slice.sliceApplied Builtin.Slice.sliceFields;refine wpAny_bind (wpAny_bind (wpAny_field UH Ww (x:=vl) rfl (wpAny_bind (wpAny_field UH Ww (x:=vu) rfl (wpAny_bind (wpAny_field UH Ww (x:=.none) rfl (wpAny_pure ?_)))))));refine wpAny_bind (slicePart_none ?_);show wpAny _ _ (if ((1:Int) == 0)=true then _ else _) _ _ s;rw [if_neg (by decide)];refine wpAny_bind (jU pl (wpAny_bind (jU pu (wpAny_bind (wpAny_pure ?_)))));show wpAny _ _ (match Builtin.Slice.sliceAdjust lo hi 1 (n:Int) with | (lo,hi)=>pure (lo,(1:Int),Builtin.Slice.slicePlaces lo hi 1)) _ _ s;rw [t7 lo hi n];show wpAny _ _ (pure (((bY n 0 lo:Nat):Int),(1:Int),Builtin.Slice.slicePlaces ((bY n 0 lo:Nat):Int) ((bY n n hi:Nat):Int) 1)) _ _ s;rw [sQ];exact wpAny_pure h
theorem KU (xs:Array Value)(i k:Nat):((List.range k).filterMap λ(m:Nat)=>xs[((i:Int) + (m:Int) * 1).toNat]?).toArray=((xs.toList.drop i).take k).toArray:=by
 have e:(λ(m:Nat)=>xs[((i:Int) + (m:Int) * 1).toNat]?)=λm=>xs[i + m]?:=by
  funext m;have:((i:Int) + (m:Int) * 1).toNat=i + m:=by omega
  rw [this]
 rw [e];have:=pick_run xs i k;rw [List.filterMap_map] at this;have e2:((λx=>xs[x]?) ∘ λx=>i + x)=λm=>xs[i + m]?:=rfl;rw [e2] at this;rw [this]
theorem iH {t sl:Addr}{items:Array Value}{vl vu:Value}{lo hi:Option Int}{Q:Value->Shared->Prop}(ht:IsTup s.heap t items)(hs:s.heap.IsSliceOf sl vl vu .none)(pl:IsPart vl lo)(pu:IsPart vu hi)
  (hw:¬ (bY items.size 0 lo=0/\bY items.size items.size hi=items.size))
  (h:Q (.ref s.heap.objs.size) { s with heap:=s.heap.push { cls:=.type "tuple", data:=.seq ((items.toList.drop (bY items.size 0 lo)).take (bY items.size items.size hi - bY items.size 0 lo)).toArray } })
  (Wm:items.size<=sizeLine):wpAny (model prog w) A (getItem (.ref t) (.ref sl)) Q E s:=by
 have vc:sizeOk (.seq ((items.toList.drop (bY items.size 0 lo)).take (bY items.size items.size hi - bY items.size 0 lo)).toArray):=by
  show ((items.toList.drop (bY items.size 0 lo)).take (bY items.size items.size hi - bY items.size 0 lo)).toArray.size<=sizeLine;rw [zf,zR,yx,Array.length_toList];omega
 have hj:bY items.size items.size hi<=items.size:=Qe _ _ (zJ _) hi;obtain ⟨os,UH,hcs,Ww⟩:=id hs;have hTs:s.TypeIs (.ref sl) "slice" := ⟨os,UH,hcs⟩;unfold getItem;try with_reducible refine wpAny_holding ?_
 first | refine wpAny_bind (wpAny_pure ?_) | skip
 refine wpAny_bind (wpAny_sequenceKey ht.typeIs (by decide) ?_);refine wpAny_bind (wpAny_callSpecial?_slot (name:=Str.ofString "__getitem__") ht.typeIs PyProof.Rows.slot_tuple_getitem
  (wpAny_call_entry PyProof.Rows.slot_tuple_getitem ht.typeIs entry_tuple_getitem ?_ (args_tuple_getitem _ _)))
 show wpAny _ _ (Builtin.Tuple.tupleItemsOf (.ref t) >>= _) _ _ s;refine wpAny_bind (tupleItemsOf_ ht ?_);refine wpAny_bind (wpAny_typeOf hTs ?_);rw [if_pos (by decide)];refine wpAny_bind (iX hs pl pu ?_);have hno:¬ ((((bY items.size 0 lo:Nat):Int) == 0 && (1:Int) == 1 && (bY items.size items.size hi - bY items.size 0 lo) == items.size)=true):=by
  intro q;rw [zW,zW] at q;have q1:((bY items.size 0 lo:Nat):Int)=0:=eq_of_beq q.1.1;have q2:bY items.size items.size hi - bY items.size 0 lo=items.size:=eq_of_beq q.2;exact hw ⟨by omega,by omega⟩
 show wpAny _ _ (if (((bY items.size 0 lo:Nat):Int) == 0 && (1:Int) == 1 && (bY items.size items.size hi - bY items.size 0 lo) == items.size)=true then _ else _) _ _ s;rw [if_neg hno,KU]
 first
  | exact wpAny_bind (m:=Builtin.Tuple.tupleExact _) (wpAny_newObj_type (wpAny_pure ⟨_,rfl,wpAny_pure h⟩) vc)
  | exact wpAny_bind (m:=Builtin.Tuple.tupleExact _) (wpAny_newObj_type (wpAny_bind (wpAny_pure (wpAny_pure ⟨_,rfl,wpAny_pure h⟩))) vc)
  | exact wpAny_bind (wpAny_bind (m:=Builtin.Tuple.tupleExact _) (wpAny_newObj_type (wpAny_pure (wpAny_pure ⟨_,rfl,wpAny_pure h⟩)) vc))
  | exact wpAny_bind (wpAny_bind (m:=Builtin.Tuple.tupleExact _) (wpAny_newObj_type (wpAny_pure ⟨_,rfl,wpAny_pure h⟩) vc))
end
end HT
namespace L2
open PySem PySem.Spec PyProof.Rows
abbrev TO:=St->Hp->(Option Int->Hp->Prop)->Prop
def PO (X:Cx)(e:Option Expr)(t:TO):Prop:=
 ∀ (ai:List (Addr×Obj)) (s:Shared) (σ:St) (H:Hp) (Q:Option Int->Hp->Prop),Inv X ai σ H s->t σ H Q ->
  wpAny (model X.prog X.w) X.A (evalPart e X.env) (λu s'=>∃ o H',Inv X ai σ H' s'/\IsPart u o/\Q o H') X.xe s
def jy:TO:=λ_ H Q=>Q none H
def oR (t:TE):TO:=fun σ H Q=>t σ H λx H1=>∃ i,x=.int i/\Q (some i) H1
section
variable {X:Cx}{e:Expr}{te:TE}{lo hi:Option Expr}{tl th:TO} {pos p2:Pos}
theorem qh:PO X none jy:=by intro ai s σ H Q I h;rw [evalPart_none];exact wpAny_pure ⟨none,H,I,.none,h⟩
theorem qX (h:PE X e te):PO X (some e) (oR te):=by intro ai s σ H Q I hw;rw [evalPart_some];refine aZ (h ai s σ H _ I hw) λu s1 WW=>?_;obtain ⟨x,H1,I1,r1,q1⟩:=WW;obtain ⟨i,rfl,q⟩:=q1;obtain ⟨t,rfl⟩:=r1;exact ⟨some i,H1,I1,.int i t,q⟩
def Vn (X:Cx)(r:V->Option Int->Option Int->Hp->VK->Prop):Prop:=
 ∀ (ai:List (Addr×Obj)) (s:Shared) (σ:St) (H:Hp) (x:V) (v vl vu:Value) (lo hi:Option Int) (sl:Addr) (Q:VK),Inv X ai σ H s->RelV x v->s.heap.IsSliceOf sl vl vu .none->IsPart vl lo->IsPart vu hi->r x lo hi H Q ->
  ∃ T id,typeLookup (.type T) "__getitem__" = pure (some (.builtin id))/\s.TypeIs v T/\wpAny (model X.prog X.w) X.A (getItem v (.ref sl)) (EP X ai σ Q) X.xe s
def VF (r:V->Option Int->Option Int->Hp->VK->Prop)(te:TE)(tl th:TO):TE:=fun σ H Q=>te σ H λx H1=>tl σ H1 λl H2=>th σ H2 λu H3=>r x l u H3 Q
theorem qQ {r:V->Option Int->Option Int->Hp->VK->Prop}(hr:Vn X r)(he:PE X e te)(hl:PO X lo tl)(hu:PO X hi th):PE X (.Subscript e (.Slice lo hi none p2) pos) (VF r te tl th):=by intro ai s σ H Q I h;refine Subscript_ (aZ (he ai s σ H _ I h) λv s1 WV=>?_);obtain ⟨x,H1,I1,r1,q1⟩:=WV;refine wpAny_Slice (aZ (hl ai s1 σ H1 _ I1 q1) λvl s2 WU=>?_);obtain ⟨l,H2,I2,pl,q2⟩:=WU;refine aZ (hu ai s2 σ H2 _ I2 q2) λvu s3 WT=>?_;obtain ⟨u,H3,I3,pu,q3⟩:=WT;rw [evalPart_none];refine wpAny_pure ?_;have I4:Inv X ai σ H3 { s3 with heap:=s3.heap.push { cls:=.type "slice", data:=.fields #[vl,vu,.none] } }:=I3.kept (t':=s3.toks) λb ob q=>Heap.get?_push_of_some _ q;obtain ⟨T,id,hT,ht,hg⟩:=hr ai { s3 with heap:=s3.heap.push { cls:=.type "slice", data:=.fields #[vl,vu,.none] } } σ H3 x v vl vu l u s3.heap.objs.size Q I4 r1 (Heap.IsSliceOf.new ..) pl pu q3;show wpAny (model X.prog X.w) X.A (subscriptTail e (.Slice lo hi none p2) v (.ref s3.heap.objs.size)) (EP X ai σ Q) X.xe { s3 with heap:=s3.heap.push { cls:=.type "slice", data:=.fields #[vl,vu,.none] } };exact tail_any (ops:=[.ref s3.heap.objs.size,v]) ht hT hg (by with_unfolding_all rfl)
def aN (xs:List V)(lo hi:Option Int):List V:=(xs.drop (HT.bY xs.length 0 lo)).take (HT.bY xs.length xs.length hi - HT.bY xs.length 0 lo)
theorem qO (xs:List V)(lo hi:Option Int):(aN xs lo hi).length<=xs.length:=by unfold aN;rw [zR,yx];omega
def S7 (K:PySem.W.Frag):V->Option Int->Option Int->Hp->VK->Prop:=λx lo hi H Q=>∃ a xs,x=.ref a/\aX K H a xs /\
 ¬ (HT.bY xs.length 0 lo=0/\HT.bY xs.length xs.length hi=xs.length)/\∀ p,H p=none->Q (.ref p) (upd H p (.tup (aN xs lo hi)))
theorem Qc:Vn X (S7 X.K):=by
 intro ai s σ H x v vl vu lo hi sl Q I rx hs pl pu h;obtain ⟨a,xs,rfl,hx,hw,q⟩:=h;cases rx;obtain ⟨aC,r,ht,hz⟩:=I.tuple hx;have hlen:aC.toArray.size=xs.length:=by rw [zf];exact r.length.symm
 refine ⟨"tuple", _,PyProof.Rows.slot_tuple_getitem.lookup,ht.typeIs,?_⟩;refine HT.iH ht hs pl pu (by rw [hlen];exact hw) ?_ (by rw [hlen];exact hz);rw [hlen];refine ⟨.ref s.heap.objs.size,_,I.laid (t':=s.toks) (o:=.tup (aN xs lo hi)) (λb ob q=>Heap.get?_push_of_some _ q) (zJ _) ?_,rfl,q _ (I.bh.fresh (zJ _))⟩;exact ⟨⟨yG (qO xs lo hi) hz,kB⟩,_,(r.drop (HT.bY xs.length 0 lo)).take (HT.bY xs.length xs.length hi - HT.bY xs.length 0 lo),IsTup.new _ _⟩
end
def tE (n:Nat)(i:Int):Option Nat:=if 0<=i then (if i < n then some i.toNat else none) else if -(n:Int)<=i then some (i + n).toNat else none
def bQ {α:Type}(xs:List α)(i:Int):Option α:=(tE xs.length i).bind λj=>xs[j]?
theorem uZ {n:Nat}{i:Int}{j:Nat}(h:tE n i=some j):seqIndex? i n=some j/\j < n/\-(n:Int)<=i/\i < n:=by
 unfold tE at h;by_cases h0:0<=i
 ·rw [if_pos h0] at h;by_cases h1:i < n
  ·rw [if_pos h1] at h;have e:i.toNat=j:=Option.some.inj h;exact ⟨by rw [seqIndex_of h0 h1,e],by omega,by omega,h1⟩
  ·rw [if_neg h1] at h;cases h
 ·rw [if_neg h0] at h;by_cases h1:-(n:Int)<=i
  ·rw [if_pos h1] at h;have e:(i + n).toNat=j:=Option.some.inj h;exact ⟨by rw [seqIndex_neg (by omega) h1,e],by omega,h1,by omega⟩
  ·rw [if_neg h1] at h;cases h
theorem vC {α:Type}{xs:List α}{i:Int}{v:α}(h:bQ xs i=some v):∃ j,seqIndex? i xs.length=some j/\xs[j]?=some v/\j < xs.length/\-(xs.length:Int)<=i/\i < xs.length:=by
 unfold bQ at h;cases e:tE xs.length i with
 | none=>rw [e] at h;cases h
 | some j=>
  rw [e] at h;obtain ⟨h1,h2,h3,h4⟩:=uZ e;exact ⟨j,h1,h,h2,h3,h4⟩
theorem wA {α:Type}{xs:List α}{j:Nat}{v:α}(h:xs[j]?=some v):bQ xs (j:Int)=some v:=by
 have hj:j < xs.length:=(zQ.mp h).1;have e:tE xs.length (j:Int)=some j:=by
  unfold tE;rw [if_pos (by omega),if_pos (by omega)];simp
 unfold bQ;rw [e];exact h
def Ot (b:Expr):Prop:=∀ o i,subscripted b false o i=operate [o,i] (getItem o i)
def Vv (X:Cx)(r:R2):Prop:=
 ∀ (value slice:Expr) (ai:List (Addr×Obj)) (s:Shared) (σ:St) (H:Hp) (x y:V) (v u:Value) (Q:VK),Inv X ai σ H s->RelV x v->RelV y u->r x y H Q ->
  subscripted slice false v u=operate [v,u] (getItem v u)->wpAny (model X.prog X.w) X.A (subscriptTail value slice v u) (EP X ai σ Q) X.xe s
def MtR (X:Cx)(id:String)(r:V->List V->Hp->VK->Prop):Prop:=
 ∀ (ai:List (Addr×Obj)) (s:Shared) (σ:St) (H:Hp) (x:V) (xs:List V) (v:Value) (us:List Value) (Q:VK),Inv X ai σ H s->RelV x v->Vals xs us->r x xs H Q ->
  wpAny (model X.prog X.w) X.A (call (.builtin id) (v::us)) (EP X ai σ Q) X.xe s
section
variable {X:Cx}{a b:Expr}{ta tb:TE}{pos:Pos}
theorem xi {r:R2}(hr:Vv X r)(ha:PE X a ta)(hb:PE X b tb)(hs:Ot b):PE X (.Subscript a b pos) (PU r ta tb):=by intro ai s σ H Q I h;exact Subscript_ (Rw ha hb I h λv u s2 x y H2 I2 rx ry q=>hr a b ai s2 σ H2 x y v u Q I2 rx ry q (hs _ _))
def KO (K:PySem.W.Frag):R2:=λx y H Q=>∃ p xs i v,x=.ref p/\y=.int i/\aB K H p xs/\bQ xs i=some v/\Q v H
def KN (K:PySem.W.Frag):R2:=λx y H Q=>∃ p xs i v,x=.ref p/\y=.int i/\aX K H p xs/\bQ xs i=some v/\Q v H
theorem N4:Vv X (KO X.K):=by
 intro value slice ai s σ H x y v u Q I rx ry h hs;obtain ⟨p,xs,i,z,rfl,rfl,hq,he,q⟩:=h;cases rx;obtain ⟨t,rfl⟩:=ry;obtain ⟨aC,r,pl,hz⟩:=I.list hq;obtain ⟨j,h1,h2,h3,h4,h5⟩:=vC he;obtain ⟨w,ew,SW⟩:=r.get h2;have hl:=r.length;have hn:=kD;have fin:EP X ai σ Q w s:=⟨z,H,I,SW,q⟩;by_cases h0:0<=i
 ·have hj:i.toNat=j:=by
   rw [seqIndex_of h0 h5] at h1;exact Option.some.inj h1
  exact item_listR pl.isList h0 (by omega) (by rw [hj];simpa using ew) fin hs
 ·have hj:(i + (aC.toArray.size:Int)).toNat=j:=by
   rw [seqIndex_neg (by omega) h4] at h1;rw [zf,<- hl];exact Option.some.inj h1
  exact subscriptTail_builtinR (x:=w) pl.isList.typeIs slot_list_getitem.lookup
   (wpAny_getItem_list_neg (Q:=λr s'=>r=w/\EP X ai σ Q r s') pl.isList (by omega) (by rw [zf] <;> omega) (by omega) (by rw [hj];simpa using ew) ⟨rfl,fin⟩) hs
theorem QX:Vv X (KN X.K):=by
 intro value slice ai s σ H x y v u Q I rx ry h hs;obtain ⟨p,xs,i,z,rfl,rfl,hq,he,q⟩:=h;cases rx;obtain ⟨t,rfl⟩:=ry;obtain ⟨aC,r,pl,hz⟩:=I.tuple hq;obtain ⟨j,h1,h2,h3,h4,h5⟩:=vC he;obtain ⟨w,ew,SW⟩:=r.get h2;have hl:=r.length;have hn:=kD;have fin:EP X ai σ Q w s:=⟨z,H,I,SW,q⟩;exact subscriptTail_builtinR (x:=w) pl.typeIs slot_tuple_getitem.lookup
  (getItem_tuple (j:=j) (Q:=λr s'=>r=w/\EP X ai σ Q r s') pl (by omega) (by omega) (by rw [zf,<- hl];exact h1) (by simpa using ew) ⟨rfl,fin⟩) hs
theorem sW (aC:List Value)(n j:Nat)(u:Value):Obj.mapSeq (·.setIfInBounds j u) { cls:=.type "list", data:=.seq aC.toArray n }={ cls:=.type "list", data:=.seq (aC.set j u).toArray n }:=by simp [Obj.mapSeq]
theorem Inv.lst {ai:List (Addr×Obj)}{σ:St}{H:Hp}{s:Shared}{p:Addr}{xs:List V}(I:Inv X ai σ H s)(h:H p=some (.lst xs)) :
  ∃ (aC:List Value) (n:Nat),Vals xs aC/\s.heap.get? p=some { cls:=.type "list", data:=.seq aC.toArray n }/\xs.length<=sizeLine:=by
 obtain ⟨z,aC,n,r,e⟩:=I.bh p _ h;exact ⟨aC,n,r,e,z⟩
theorem Inv.QH {ai:List (Addr×Obj)}{σ:St}{H:Hp}{s:Shared}{p:Addr}{xs ys:List V}{aC its':List Value}{n n':Nat}{f:Obj->Obj}(I:Inv X ai σ H s)(h:H p=some (.lst xs))
  (ho:s.heap.get? p=some { cls:=.type "list", data:=.seq aC.toArray n }) (hf:f { cls:=.type "list", data:=.seq aC.toArray n }={ cls:=.type "list", data:=.seq its'.toArray n' }) (r:Vals ys its') (hz:ys.length<=sizeLine) (t:Nat) :
  Inv X ai σ (upd H p (.lst ys)) { s with heap:=s.heap.update p f,toks:=t }:=by
 have e:(s.heap.update p f).get? p=some { cls:=.type "list", data:=.seq its'.toArray n' }:=by
  rw [Heap.get?_update_self f ho (by rw [hf] <;> rfl),hf]
 refine I.write (x:=p) (e:=p) (by rw [h];trivial) (.inl rfl) (λb u hb q=>(Heap.get?_update_other _ _ (Ne.symm hb)).trans q) ⟨_,e⟩ ?_;exact ⟨hz,its',n',r,e⟩
def uJ:V->V->V->Hp->(Hp->Prop)->Prop:=λo i v H Q=>∃ p xs k j,o=.ref p/\i=.int k/\H p=some (.lst xs)/\tE xs.length k=some j/\Q (upd H p (.lst (xs.set j v)))
theorem wJ:RD X uJ:=by
 intro ai s σ H o i v ov iv u Q I ro ri rv h;obtain ⟨p,xs,k,j,rfl,rfl,hp,hj,q⟩:=h;cases ro;obtain ⟨t,rfl⟩:=ri;obtain ⟨aC,n,r,ho,hz⟩:=I.lst hp;obtain ⟨h1,h2,h3,h4⟩:=uZ hj;have hl:=r.length;have hn:=kD;have I':Inv X ai σ (upd H p (.lst (xs.set j v))) { s with heap:=s.heap.update p (Obj.mapSeq (·.setIfInBounds j u)) }:=
  I.QH hp ho (sW aC n j u) (r.set rv j) (by rw [yI];exact hz) s.toks
 by_cases h0:0<=k
 ·have hk:k.toNat=j:=by
   rw [seqIndex_of h0 h4] at h1;exact Option.some.inj h1
  exact PySem.W.ki_setAt ho h0 (by omega) (by rw [zf,<- hl];exact h4) (by rw [hk];exact ⟨_,I',q⟩)
 ·have hk:(k + (aC.toArray.size:Int)).toNat=j:=by
   rw [seqIndex_neg (by omega) h3] at h1;rw [zf,<- hl];exact Option.some.inj h1
  exact PySem.W.ki_setBack ho (by omega) (by rw [zf,<- hl];exact h3) (by omega) (by rw [hk];exact ⟨_,I',q⟩)
theorem nC (lo hi:Option Int)(n:Nat):(sliceBounds lo hi none n).1=((HT.bY n 0 lo:Nat):Int)/\(sliceBounds lo hi none n).2.1=((HT.bY n n hi:Nat):Int)/\(sliceBounds lo hi none n).2.2=1:=by
 refine ⟨?_,?_,rfl⟩
 ·cases lo with
  | none=>simp [sliceBounds,HT.bY]
  | some i=>
   simp only [sliceBounds,HT.bY,Option.getD_none,show (1:Int) > 0 by decide,if_true];by_cases h:i < 0
   ·simp only [h,if_true] <;> omega
   ·simp only [h,if_false] <;> omega
 ·cases hi with
  | none=>simp [sliceBounds,HT.bY]
  | some i=>
   simp only [sliceBounds,HT.bY,Option.getD_none,show (1:Int) > 0 by decide,if_true];by_cases h:i < 0
   ·simp only [h,if_true] <;> omega
   ·simp only [h,if_false] <;> omega
theorem lQ (aC:List Value)(lo hi:Option Int):slicePick aC.toArray lo hi none=((aC.drop (HT.bY aC.length 0 lo)).take (HT.bY aC.length aC.length hi - HT.bY aC.length 0 lo)).toArray:=by obtain ⟨h1,h2,h3⟩:=nC lo hi aC.toArray.size;unfold slicePick;rw [h1,h2,h3];simp only [sliceRange_one,pick_run,zf] <;> rfl
def S8 (K:PySem.W.Frag):V->Option Int->Option Int->Hp->VK->Prop:=λx lo hi H Q=>∃ a xs,x=.ref a/\aB K H a xs/\∀ p,H p=none->Q (.ref p) (upd H p (.lst (aN xs lo hi)))
theorem Nq:Vn X (S8 X.K):=by intro ai s σ H x v vl vu lo hi sl Q I rx hs pl pu h;obtain ⟨a,xs,rfl,hx,q⟩:=h;cases rx;obtain ⟨aC,r,ht,hz⟩:=I.list hx;have hlen:=r.length;refine ⟨"list", _,slot_list_getitem.lookup,ht.isList.typeIs,?_⟩;refine wpAny_getItem_list_slice ht.isList hs pl pu .none (by simp) ?_ (by rw [zf] <;> omega);rw [lQ,<- hlen];refine ⟨.ref s.heap.objs.size,_,I.laid (t':=s.toks) (o:=.lst (aN xs lo hi)) (λb ob q=>Heap.get?_push_of_some _ q) (zJ _) ?_,rfl,q _ (I.bh.fresh (zJ _))⟩;exact ⟨yG (qO xs lo hi) hz,_,0,(r.drop (HT.bY xs.length 0 lo)).take (HT.bY xs.length xs.length hi - HT.bY xs.length 0 lo),Heap.get?_push_size _ rfl⟩
def cy:V->Bool
 | .bF=>true
 | .bl _=>true
 | .int _=>true
 | .str _=>true
 | _=>false
def rV:V->V->Bool
 | .bF,.bF=>true
 | .bl a,.bl b=>a == b
 | .bl a,.int b=>(if a then 1 else 0) == b
 | .int a,.bl b=>a == (if b then 1 else 0)
 | .int a,.int b=>a == b
 | .str a,.str b=>a == b
 | _,_=>false
theorem L6 {A:Around}{s:Shared}{y x:V}{u v:Value}(ry:RelV y u)(rx:RelV x v)(fy:cy y=true)(fx:cy x=true):SeqAt.EqAt A s u v (rV y x):=by
 cases y with
 | bF=>
  cases ry;cases x with
  | bF=>cases rx;exact SeqAt.EqAt.same _
  | bl b=>cases rx;exact SeqAt.EqAt.none_bool b
  | int b=>obtain ⟨t,rfl⟩:=rx;exact SeqAt.EqAt.none_int b t
  | str b=>obtain ⟨t,rfl⟩:=rx;exact SeqAt.EqAt.none_str b t
  | _=>exact absurd (show false=true from fx) za
 | bl a=>
  cases ry;cases x with
  | bF=>cases rx;exact SeqAt.EqAt.bool_none a
  | bl b=>cases rx;exact SeqAt.EqAt.bool_bool a b
  | int b=>obtain ⟨t,rfl⟩:=rx;exact SeqAt.EqAt.bool_int a b t
  | str b=>obtain ⟨t,rfl⟩:=rx;exact SeqAt.EqAt.bool_str a b t
  | _=>exact absurd (show false=true from fx) za
 | int a=>
  obtain ⟨t',rfl⟩:=ry;cases x with
  | bF=>cases rx;exact SeqAt.EqAt.int_none a t'
  | bl b=>cases rx;exact SeqAt.EqAt.int_bool a t' b
  | int b=>obtain ⟨t,rfl⟩:=rx;exact SeqAt.EqAt.int_int a t' b t
  | str b=>obtain ⟨t,rfl⟩:=rx;exact SeqAt.EqAt.int_str a t' b t
  | _=>exact absurd (show false=true from fx) za
 | str a=>
  obtain ⟨t',rfl⟩:=ry;cases x with
  | bF=>cases rx;exact SeqAt.EqAt.str_none a t'
  | bl b=>cases rx;exact SeqAt.EqAt.str_bool a t' b
  | int b=>obtain ⟨t,rfl⟩:=rx;exact SeqAt.EqAt.str_int a t' b t
  | str b=>obtain ⟨t,rfl⟩:=rx;exact SeqAt.EqAt.str_str a t' b t
  | _=>exact absurd (show false=true from fx) za
 | _=>exact absurd (show false=true from fy) za
def tS (x:V)(u:Value):Bool:=match u with
 | .none=>rV .bF x
 | .bool b=>rV (.bl b) x
 | .int i _=>rV (.int i) x
 | .str z _=>rV (.str z) x
 | _=>false
theorem L5 {x y:V}{u:Value}(r:RelV y u)(f:cy y=true):tS x u=rV y x:=by
 cases y with
 | bF=>cases r;rfl
 | bl b=>cases r;rfl
 | int i=>obtain ⟨t,rfl⟩:=r;rfl
 | str z=>obtain ⟨t,rfl⟩:=r;rfl
 | _=>exact absurd (show false=true from f) za
theorem iQ {x:V}:∀ {xs:List V}{us:List Value},Vals xs us->xs.all cy=true->us.any (tS x)=xs.any λy=>rV y x
 | _,_,.nil,_=>rfl
 | y::xs,u::us,.cons r t,f=>by
  rw [yk,zW] at f;rw [List.any_cons,List.any_cons,L5 r f.1,iQ t f.2]
theorem fR {A:Around}{s:Shared}{x:V}{v:Value}(rx:RelV x v)(fx:cy x=true):∀ {xs:List V}{us:List Value},Vals xs us->xs.all cy=true->∀ u∈us,SeqAt.EqAt A s u v (tS x u)
 | _,_,.nil,_=>λu hu=>by cases hu
 | y::xs,u::us,.cons r t,f=>λu' hu=>by
  rw [yk,zW] at f;rcases zG.mp hu with rfl | hu
  ·rw [L5 r f.1];exact L6 r rx f.1 fx
  ·exact fR rx fx t f.2 u' hu
def Q2 (x:V)(xs:List V):Bool:=xs.any λy=>rV y x
def YA (K:PySem.W.Frag)(neg:Bool):R2:=λx y H Q=>∃ p xs,y=.ref p/\(aB K H p xs\/aX K H p xs)/\cy x=true/\xs.all cy=true/\Q (.bl (if neg then !Q2 x xs else Q2 x xs)) H
theorem IZ:gE X (compareOp .In) (YA X.K false):=by
 intro ai s σ H x y v u Q I rx ry h;obtain ⟨p,xs,rfl,hq,fx,fs,q⟩:=h;cases ry;rcases hq with hq | hq
 ·obtain ⟨aC,r,pl,hz⟩:=I.list hq;refine SeqAt.in_listAt (tS x) pl.isList (λw hw=>fR rx fx r fs w (by simpa using hw)) ⟨.bl _,H,I,rfl,?_⟩;rw [show aC.toArray.any (tS x)=aC.any (tS x) by simp,iQ r fs];exact q
 ·obtain ⟨aC,r,pl,hz⟩:=I.tuple hq;refine SeqAt.in_tupleAt (tS x) pl (λw hw=>fR rx fx r fs w (by simpa using hw)) ⟨.bl _,H,I,rfl,?_⟩;rw [show aC.toArray.any (tS x)=aC.any (tS x) by simp,iQ r fs];exact q
theorem iy:gE X (compareOp .NotIn) (YA X.K true):=by
 intro ai s σ H x y v u Q I rx ry h;obtain ⟨p,xs,rfl,hq,fx,fs,q⟩:=h;cases ry;rcases hq with hq | hq
 ·obtain ⟨aC,r,pl,hz⟩:=I.list hq;refine SeqAt.notIn_listAt (tS x) pl.isList (λw hw=>fR rx fx r fs w (by simpa using hw)) ⟨.bl _,H,I,rfl,?_⟩;rw [show aC.toArray.any (tS x)=aC.any (tS x) by simp,iQ r fs];exact q
 ·obtain ⟨aC,r,pl,hz⟩:=I.tuple hq;refine SeqAt.notIn_tupleAt (tS x) pl (λw hw=>fR rx fx r fs w (by simpa using hw)) ⟨.bl _,H,I,rfl,?_⟩;rw [show aC.toArray.any (tS x)=aC.any (tS x) by simp,iQ r fs];exact q
theorem oi:cD X (.builtin "len") (λxs H Q=>∃ p ys,xs=[.ref p]/\(aB X.K H p ys\/aX X.K H p ys)/\Q (.int ys.length) H):=by
 intro ai s σ H xs us Q I r h;obtain ⟨p,ys,rfl,hq,q⟩:=h;obtain ⟨u,rfl,rx⟩:=vals1 r;cases rx;have hn:=kD;rcases hq with hq | hq
 ·obtain ⟨aC,r',pl,hz⟩:=I.list hq;have hlen:=r'.length;exact Calls.call_len_list pl.isList (by simp only [zf] <;> omega) ⟨.int ys.length,H,I.tok _,⟨s.toks + 1,by rw [zf,hlen]⟩,q⟩
 ·obtain ⟨aC,r',pl,hz⟩:=I.tuple hq;have hlen:=r'.length;exact len_tuple pl (by simp only [zf] <;> omega) ⟨.int ys.length,H,I.tok _,⟨s.toks + 1,by rw [zf,hlen]⟩,q⟩
theorem oh:cD X (.type "list") (λxs H Q=>∃ p ys,xs=[.ref p]/\(aB X.K H p ys\/aX X.K H p ys)/\∀ l,H l=none->Q (.ref l) (upd H l (.lst ys))):=by
 intro ai s σ H xs us Q I r h;obtain ⟨p,ys,rfl,hq,q⟩:=h;obtain ⟨u,rfl,rx⟩:=vals1 r;cases rx;have fin:∀ (aC:List Value),Vals ys aC->ys.length<=sizeLine->∀ (h':Heap) (c':Nat),(∀ b o',s.heap.get? b=some o'->h'.get? b=some o') ->
   h'.get? s.heap.objs.size=some { cls:=.type "list", dict:=none,data:=.seq aC.toArray c',slots:=#[] }->EP X ai σ Q (.ref s.heap.objs.size) { s with heap:=h' }:=λaC r' hz h' c' kp e=>
  ⟨.ref s.heap.objs.size,_,I.laid (t':=s.toks) kp (zJ _) (show bA X.prog X.w _ h' _ (.lst ys) from ⟨hz,aC,c',r',e⟩),rfl,q _ (I.bh.fresh (zJ _))⟩
 rcases hq with hq | hq
 ·obtain ⟨aC,r',pl,hz⟩:=I.list hq;have hlen:=r'.length;obtain ⟨o,ho,hc,n,hd⟩:=pl.isList;exact call_list_seq p (.inl rfl) ho hc hd (λh' c' kp e=>fin aC r' hz h' c' kp e) (by simp only [zf] <;> omega)
 ·obtain ⟨aC,r',pl,hz⟩:=I.tuple hq;have hlen:=r'.length;obtain ⟨o,ho,hc,n,hd⟩:=pl;exact call_list_seq p (.inr rfl) ho hc hd (λh' c' kp e=>fin aC r' hz h' c' kp e) (by simp only [zf] <;> omega)
theorem wv:cD X (.type "tuple") (λxs H Q=>∃ p ys,xs=[.ref p]/\((aB X.K H p ys/\∀ l,H l=none->Q (.ref l) (upd H l (.tup ys)))\/(aX X.K H p ys/\Q (.ref p) H))):=by
 intro ai s σ H xs us Q I r h;obtain ⟨p,ys,rfl,h⟩:=h;obtain ⟨u,rfl,rx⟩:=vals1 r;cases rx;rcases h with ⟨hq,q⟩ | ⟨hq,q⟩
 ·obtain ⟨aC,r',pl,hz⟩:=I.list hq;have hlen:=r'.length;refine call_tuple_list pl.isList (λh' kp=>?_) (by simp only [zf] <;> omega);have I1:Inv X ai σ H { s with heap:=h' }:=I.kept (t':=s.toks) kp;have I2:Inv X ai σ (upd H h'.objs.size (.tup ys)) { s with heap:=h'.push { cls:=.type "tuple", data:=.seq aC.toArray } }:=
   I1.laid (t':=s.toks) (λb o e=>Heap.get?_push_of_some _ e) (zJ _) (show bA X.prog X.w _ _ _ (.tup ys) from ⟨⟨hz,kB⟩,aC,r',IsTup.new _ _⟩)
  exact ⟨.ref h'.objs.size,_,I2,rfl,q _ (I1.bh.fresh (zJ _))⟩
 ·obtain ⟨aC,r',pl,hz⟩:=I.tuple hq;exact call_tuple_same pl ⟨.ref p,H,I,rfl,q⟩
def tyV (K:PySem.W.Frag)(T:String)(x:V)(H:Hp):Prop:=match x with
 | .str _=>T = "str"
 | .int _=>T = "int"
 | .ref p=>(T = "list" /\ ∃ xs,aB K H p xs)\/(T = "tuple" /\ ((∃ o,K.lookup p=some o/\o.cls=.type "tuple" /\ o.dict=none)\/∃ xs,H p=some (.tup xs))) \/
   (T = "dict" /\ ((∃ iF,H p=some (.dK iF))\/∃ iF,H p=some (.dT iF)))\/(T = "set" /\ ∃ S n,H p=some (.set S n))
 | _=>False
theorem PD {ai:List (Addr×Obj)}{σ:St}{H:Hp}{s:Shared}{T:String}{x:V}{v:Value}(I:Inv X ai σ H s)(r:RelV x v)(ty:tyV X.K T x H) :
  s.TypeIs v T/\∀ a,v=.ref a->∃ ob,s.heap.get? a=some ob/\ob.dict=none:=by
 cases x with
 | str z=>
  obtain ⟨t,rfl⟩:=r;cases (show T = "str" from ty);exact ⟨typeIs_str s z t,λ_ e=>nomatch e⟩
 | int i=>
  obtain ⟨t,rfl⟩:=r;cases (show T = "int" from ty);exact ⟨typeIs_int s i t,λ_ e=>nomatch e⟩
 | ref p=>
  cases r;rcases ty with ⟨rfl,xs,hq⟩ | ⟨rfl,⟨o,hk,hc,hd⟩ | ⟨xs,hk⟩⟩ | ⟨rfl,hk⟩ | ⟨rfl,S,n,hk⟩
  ·obtain ⟨aC,_,pl,_⟩:=I.list hq;refine ⟨pl.isList.typeIs,λa e=>?_⟩;cases e;obtain ⟨o,n,e,c,hd,_⟩:=pl;exact ⟨o,e,hd⟩
  ·refine ⟨⟨o,I.p8 p o hk,hc⟩,λa e=>?_⟩;cases e;exact ⟨o,I.p8 _ o hk,hd⟩
  ·obtain ⟨nb,_,_,o,e,c,_⟩:=I.bh p _ hk;exact ⟨⟨o,e,c⟩,λa z=>by cases z;exact ⟨o,e,nb.2 o e⟩⟩
  ·have z:∃ o,s.heap.get? p=some o/\o.ExactDict:=by
    rcases hk with ⟨iF,hk⟩ | ⟨iF,hk⟩
    ·obtain ⟨_,_,_,_,o,_,_,e,ex,_⟩:=I.bh p _ hk;exact ⟨o,e,ex⟩
    ·obtain ⟨_,_,_,_,o,_,_,e,ex,_⟩:=I.bh p _ hk;exact ⟨o,e,ex⟩
   obtain ⟨o,e,ex⟩:=z;refine ⟨⟨o,e,ex.1⟩,λa e2=>?_⟩;cases e2;exact ⟨o,e,ex.2.1⟩
  ·obtain ⟨o,_,_,_,e,ex,_⟩:=I.bh p _ hk;refine ⟨⟨o,e,ex.1⟩,λa e2=>?_⟩;cases e2;exact ⟨o,e,ex.2.1⟩
 | _=>exact False.elim ty
def VH (K:PySem.W.Frag)(T:String)(r:V->List V->Hp->VK->Prop)(to:TE)(t:TA):TE:=fun σ H Q=>to σ H λx H1=>tyV K T x H1/\t σ H1 λxs H2=>r x xs H2 Q
variable {o e:Expr}{es:List Expr}{to:TE}{t:TA}{name:Str}{apos rB:Pos}{T id:String}{r:V->List V->Hp->VK->Prop}
theorem uM (pa:PlainAttrs T)(slot:Slot T name id)(MH:typeOf (.builtin id)=pure (.type "method_descriptor"))(hm:MtR X id r)(ho:PE X o to)(ha:PA X (e::es) t)
  (UU:attributeBase o name X.env (eval o X.env)=eval o X.env:=by rfl)
  (aao:((backTo rB (starEach (e::es) X.env)).all (λx=>!x.1) && (backToKw rB (keywordEach [] X.env)).all (λx=>x.1.isSome)
   && decide ((e::es).length + ([]:List Keyword).length + (if ([]:List Keyword).isEmpty then 0 else 1) < 30))=true:=by rfl)
  (UJ:(apos.endLine == rB.line)=true:=by rfl) (hs:starEach (e::es) X.env=(false,eval e X.env)::starEach es X.env:=by rfl) (Q7:(backTo rB (starEach es X.env)).any (·.1)=false:=by rfl) :
  PE X (.Call (.Attribute o name apos) (e::es) [] rB) (VH X.K T r to t):=by
 intro ai s σ H Q I h;refine wpAny_Call_method_late UU aao UJ rfl (aZ (ho ai s σ H _ I h) λv s1 WS=>?_);obtain ⟨x,H1,I1,r1,ty,q1⟩:=WS;obtain ⟨h1,h2⟩:=PD I1 r1 ty;refine ⟨T,id,pa,slot,MH,h1,h2,?_⟩;have hA:=ha rB ai s1 σ H1 _ I1 q1;rw [hs] at hA ⊢;refine Calls.callWith_builtin (by show (false || (backTo rB (starEach es X.env)).any (·.1))=false;rw [Q7] <;> rfl) (Calls.evalArgs_plain ?_);exact aZ hA λus s2 ⟨vs,H2,I2,r2,q2⟩=>hm ai s2 σ H2 x vs v us Q I2 r1 r2 q2
/- xs.append(e),list.index on a Ld tuple .. are MtR facts of 06m -/
end
def MtM (X:Cx)(id:String)(r:V->List V->Hp->VK->Prop):Prop:=
 ∀ (ai:List (Addr×Obj)) (s:Shared) (σ:St) (H:Hp) (x:V) (xs:List V) (v:Value) (us:List Value) (Q:VK),Inv X ai σ H s->RelV x v->Vals xs us->r x xs H Q ->
  wpAny (model X.prog X.w) X.A (call (.builtin id) (v::us)) (EP X ai σ Q) X.xe s
theorem Vals.one:∀ {x:V}{us:List Value},Vals [x] us->∃ u,us=[u]/\RelV x u
 | _,_,.cons r .nil=>⟨_,rfl,r⟩
theorem Vals.reverse {xs:List V}{us:List Value}(h:Vals xs us):Vals xs.reverse us.reverse:=by
 induction h with
 | nil=>exact .nil
 | cons r t ih=>rw [List.reverse_cons,List.reverse_cons];exact Vals.append ih (.cons r .nil)
theorem Vals.rep {xs:List V}{us:List Value}(h:Vals xs us):∀ k:Nat,Vals (List.replicate k xs).flatten (List.replicate k us).flatten
 | 0=>.nil
 | k + 1=>by
  rw [ya,ya,xB,xB];exact Vals.append h (Vals.rep h k)
theorem foldl_rep (aC:List Value):∀ (k:Nat) (acc:List Value),
  List.foldl (λx1 x2=>x1++x2) acc.toArray (List.replicate k aC.toArray)=(acc++(List.replicate k aC).flatten).toArray
 | 0,acc=>by simp
 | k + 1,acc=>by
  have e:acc.toArray++aC.toArray=(acc++aC).toArray:=by simp
  have e2:(acc++aC)++(List.replicate k aC).flatten=acc++(List.replicate (k + 1) aC).flatten:=by
   rw [ya,xB,xK]
  rw [<-e2,<- foldl_rep aC k (acc++aC),<- e,ya,xI]
section
variable {X:Cx}{ai:List (Addr×Obj)}{σ:St}{H:Hp}{s:Shared}{l b:Addr}{xs ys zs:List V}
theorem Inv.Y7 {aC its':List Value}{n:Nat}{f:Array Value->Array Value}{t':Nat}(I:Inv X ai σ H s)(hH:H l=some (.lst xs))
  (e:s.heap.get? l=some { cls:=.type "list", data:=.seq aC.toArray n }) (hf:f aC.toArray=its'.toArray) (hv:Vals ys its') (hz:ys.length<=sizeLine) :
  Inv X ai σ (upd H l (.lst ys)) { s with heap:=s.heap.update l (Obj.mapSeq f),toks:=t' }:=by
 have q:=PySem.IsL.update e f;rw [hf] at q;refine I.write (x:=l) (e:=l) (by rw [hH];exact trivial) (.inl rfl) (λb' u hb hu=>(Heap.get?_update_other s.heap (Obj.mapSeq f) (Ne.symm hb)).trans hu) ⟨_,q⟩ ?_;exact ⟨hz,its',_,hv,q⟩
theorem Inv.TN {aC:List Value}{t':Nat}(I:Inv X ai σ H s)(hv:Vals ys aC)(hz:ys.length<=sizeLine) :
  Inv X ai σ (upd H s.heap.objs.size (.lst ys)) { s with heap:=s.heap.push { cls:=.type "list", data:=.seq aC.toArray },toks:=t' }:=
 I.laid (λ_ _ q=>Heap.get?_push_of_some _ q) (zJ _) ⟨hz,aC,0,hv,Heap.get?_push_size _ rfl⟩
theorem Inv.fresh (I:Inv X ai σ H s):H s.heap.objs.size=none:=I.bh.fresh (zJ _)
theorem Inv.NY (I:Inv X ai σ H s)(hH:H l=some (.lst xs)):xs.length<=sizeLine/\∃ (aC:List Value) (n:Nat),Vals xs aC/\xs.length=aC.length/\s.heap.get? l=some { cls:=.type "list", data:=.seq aC.toArray n }:=by obtain ⟨z,aC,n,r,e⟩:=I.bh l _ hH;exact ⟨z,aC,n,r,r.length,e⟩
theorem K7 {n:Nat}(h:n<=sizeLine):Builtin.List.listTooLong n=false:=by unfold Builtin.List.listTooLong;exact decide_eq_false (by omega)
end
section
variable {X:Cx}
def jC:V->List V->Hp->VK->Prop:=λx vs H Q=>∃ l xs y,x=.ref l/\vs=[y]/\H l=some (.lst xs)/\xs.length < sizeLine/\Q .bF (upd H l (.lst (xs++[y])))
theorem f6:MtM X "list.append" jC:=by intro ai s σ H x vs v us Q I rx rv h;obtain ⟨l,xs,y,rfl,rfl,hH,hz,q⟩:=h;cases rx;obtain ⟨u,rfl,ru⟩:=rv.one;obtain ⟨z,aC,n,r,hl,e⟩:=I.NY hH;refine call_meets F.slot_list_append ⟨_,e,rfl⟩ F.entry_list_append (F.args_list_append_2 _ _) (PySem.list_append l aC.toArray n u (by rw [zf];omega)) ⟨e,?_⟩;refine ⟨.bF,_,I.Y7 (its':=aC++[u]) hH e (by simp) (r.append (.cons ru .nil)) ?_,rfl,q⟩;rw [zU,yr];omega
def YB:R2:=λx y H Q=>∃ l b xs zs,x=.ref l/\y=.ref b/\H l=some (.lst xs)/\H b=some (.lst zs)/\xs.length + zs.length<=sizeLine/\∀ p,H p=none->Q (.ref p) (upd H p (.lst (xs++zs)))
theorem qS:gE X (binaryOp .Add) YB:=by
 intro ai s σ H x y v u Q I rx ry h;obtain ⟨l,b,xs,zs,rfl,rfl,hH,hB,hz,q⟩:=h;cases rx;cases ry;obtain ⟨z,aC,n,r,hl,e⟩:=I.NY hH;obtain ⟨z2,bR,n2,r2,JU,e2⟩:=I.NY hB;refine PySem.P.add_list e e2 ?_ (by rw [zf,zf];omega);have ea:aC.toArray++bR.toArray=(aC++bR).toArray:=by simp
 rw [ea];exact ⟨.ref _,_,I.TN (t':=s.toks) (r.append r2) (by rw [zU];omega),rfl,q _ I.fresh⟩
def Yy:R2:=λx y H Q=>∃ l k xs,x=.ref l/\y=.int k/\H l=some (.lst xs)/\-(2 ^ 63)<=k/\k < 2 ^ 63/\xs.length * k.toNat<=sizeLine /\
 ∀ p,H p=none->Q (.ref p) (upd H p (.lst (List.replicate k.toNat xs).flatten))
theorem len_rep {α:Type}(xs:List α)(k:Nat):(List.replicate k xs).flatten.length=k * xs.length:=by
 induction k with
 | zero=>simp
 | succ k ih=>rw [ya,xB,zU,ih,Nat.succ_mul,Nat.add_comm]
theorem fh:gE X (binaryOp .Mult) Yy:=by
 intro ai s σ H x y v u Q I rx ry h;obtain ⟨l,k,xs,rfl,rfl,hH,h1,h2,hz,q⟩:=h;cases rx;obtain ⟨t,rfl⟩:=ry;obtain ⟨z,aC,n,r,hl,e⟩:=I.NY hH;have hlen:aC.toArray.size * k.toNat<=sizeLine:=by rw [zf,<- hl];exact hz
 have aas:¬ aC.toArray.size * k.toNat > (2 ^ 63 - 1) / 8:=by
  have:(sizeLine:Nat)<=(2 ^ 63 - 1) / 8:=by decide
  omega
 have Rg:¬ (!Builtin.List.listFitsIndex k)=true:=by
  rw [fitsIndex_both h1 h2];exact za
 have UI:¬ Builtin.List.listTooLong (aC.toArray.size * k.toNat)=true:=by
  rw [K7 hlen];exact za
 have aab:List.foldl (λx1 x2=>x1++x2) #[] (List.replicate (if aC.toArray.isEmpty=true then 0 else k.toNat) aC.toArray)=(List.replicate k.toNat aC).flatten.toArray:=by
  have f0:∀ m:Nat,List.foldl (λx1 x2=>x1++x2) #[] (List.replicate m aC.toArray)=(List.replicate m aC).flatten.toArray:=λm=>by
   have:=foldl_rep aC m [];rw [zb] at this;exact this
  rw [f0];cases aC with
  | nil=>simp
  | cons a r'=>rw [if_neg (by simp)]
 refine wpAny_binaryOp_repeat_ref (T := "list") (U := "int") (by decide) ⟨_,e,rfl⟩ (λs'=>typeIs_int s' k t) noFill_list_mul F.fills_int_mul F.slot_int_rmul repeat_list F.slot_int_index.lookup
  (call_meets F.slot_int_rmul (typeIs_int s k t) F.entry_int_rmul (F.args_int_rmul_2 _ _) (int___rmul___int_list k t l aC.toArray n)
   ⟨e,rfl,⟨_,e,rfl⟩,call_meets F.slot_list_mul ⟨_,e,rfl⟩ F.entry_list_mul (F.args_list_mul_2 _ _) (AutoListH.list___mul___list_int_3 l aC.toArray n k t Rg aas UI) ⟨e,?_⟩⟩)
 rw [aab];exact ⟨.ref _,_,I.TN (t':=s.toks) (r.rep k.toNat) (by rw [len_rep,Nat.mul_comm];exact hz),rfl,q _ I.fresh⟩
end
section
variable {prog:Program}{w:World}{A:Around}{E:Value->Shared->Prop}{s:Shared}
set_option maxRecDepth 100000 in
end
section
variable {X:Cx}
end
end L2
namespace Att
open PySem PySem.W PySem.Calls PyProof.Rows
theorem jt {P:Params}{h:Heap}:∀ (ns:List Int) (vs:List Value),WellAll P h vs (ns.map WData.int)->IntsAre vs ns:=by
 intro ns;induction ns with
 | nil=>
  intro vs w;rw [zg] at w;cases w;exact .nil
 | cons n ns ih=>
  intro vs w;rw [zI] at w;cases w with
  | cons a b=>
   cases a;exact .cons _ _ (ih _ b)
theorem vV {l:OpenLaw}{n:Nat}(hn:l.most=some n){P:Params}{h:Heap}{args:List WData}{vals:List Value}
  (Ob:l.row.toRowW.claim.pre args=true) (ZQ:WellAll P h vals args) :
  ∃ a vs ns,vals=[Value.ref a]/\args=[WData.list (ns.map WData.int)]/\h.get? a=some { cls:=.type "list", data:=.seq vs.toArray }/\IntsAre vs ns/\ns.length<=n:=by
 have hsh:WShape.hasAll [] args [.list .int]=true:=(pre_splitW Ob).1;have hc:l.pre.holds [] { args:=args }=true:=(pre_splitW Ob).2;obtain ⟨d,r,rfl,h1,h2⟩:=hasAllW_cons hsh;obtain rfl:=hasAllW_nil h2;obtain ⟨xs,rfl,h3⟩:=hasW_list h1;obtain ⟨ns,rfl⟩:=items_int h3;have hlen:ns.length<=n:=by
  unfold OpenLaw.pre at hc;have h4:(WTm.not (.lt (.lit (.int (n:Int))) (.len (.arg 0)))).holds [] { args:=[.list (ns.map .int)] }=true:=by
   have h4:=(holds_andW hc).1;rw [hn] at h4;exact h4
  have h5:=condW_of h4 (w_not (w_lt w_lit (w_len_list (w_arg rfl))));rw [zA] at h5;refine xM λq=>?_;have q':(n:Int) < ((ns.length:Nat):Int):=by omega
  first
   | (rw [decide_eq_true q'] at h5;exact absurd h5 (by decide))
   | (simp at h5;omega)
 cases ZQ with
 | cons w1 w2=>
  cases w2;cases w1 with
  | list ho fH=>exact ⟨_,_,ns,rfl,rfl,ho,jt ns _ fH,hlen⟩
theorem IT (l:OpenLaw)(args:List WData):l.row.toRowW.claim.post args (.bool true) args=true:=
 postW_of (r:=l.row.toRowW) (X:=(true == true))
  (show WShape.has [] (.bool true) .bool=true by first | rfl | decide | simp [WShape.has,WShape.arms,WShape.armsAll])
  (show (WTm.eq .res (.lit (.bool true))).value [] { args:=args,res:=some (.bool true),after:=args }=some (.bool (true == true)) from w_eq_bool (w_res rfl) w_lit) rfl
theorem rL {l:OpenLaw}{n:Nat}{q:Program}{loose:List Str}{XP:(Str->Option Value)->Heap->Prop}{YP:World->Heap->Prop}{d:DefRec}
  (hn:l.most=some n) (UQ:d.params.defaults=[])
  (call:∀ (w:World) (c6 aT:Shared) (mg mb:Str->Option Value) (fa:Addr) (o:Obj) (pm cd doc:Value) (a:Addr) (vs:List Value) (ns:List Int),
   Ground q loose [] XP w c6 mg mb aT.heap->YP w aT.heap ->
   aT.heap.get? fa=some o->o.data=.func (docDef d.name d.params d.body d.scope pm cd doc)->aT.heap.CodeRec cd d.name->mg d.name=some (.ref fa) ->
   aT.heap.get? a=some { cls:=.type "list", data:=.seq vs.toArray }->IntsAre vs ns->ns.length<=n->aT.gens=#[] ->
   codeAny (model l.prog w) callerA (.call (.ref fa) ⟨[.ref a],[]⟩) (λr s'=>r=.ok (.ret (.bool true))/\OldK aT.heap s'.heap/\s'.os=aT.os/\AllBare s'.gens) aT) :
  WalkO q loose XP YP l.row.toRowW d [] (λf vs=>PySem.call f vs):=by
 intro w c6 aT mg mb G Y fa o pm cd doc dV kV ho hd LJ hD hmg hg args vals as Ob aeX hrd ZQ hlo;obtain rfl:dV=.none:=Dflts.none hD UQ;obtain rfl:kV=.none:=Dflts.noKw hD;obtain ⟨a,vs,ns,rfl,rfl,Q9,hints,hlen⟩:=vV hn Ob ZQ;refine enter_call (codeAny_mono (call w c6 aT mg mb fa o pm cd doc a vs ns G Y ho (fd_plain hd) LJ hmg Q9 hints hlen hg) λr s' hq=>?_);obtain ⟨rfl,h2,h3,h4⟩:=hq;exact ⟨.inl ⟨.bool true,.bool true,[],rfl,λ_=>rfl,.bool true,IT l _,λ_=>⟨List.Pairwise.nil,λ_ hm=>(nomatch hm)⟩⟩,h2,h3,h4⟩
section
variable {prog:Program}{w:World}{A:Around}{E:Value->Shared->Prop}{s:Shared}{K:Frag}
def ledger (h:Heap)(L d:Addr):List (Addr×Obj):=(List.range h.objs.size).filterMap λa=>if a=L\/a=d then none else (h.get? a).map λo=>(a,o)
end
end Att
namespace L2
open PySem PySem.Spec PyProof.Rows
theorem lY:∀ {vs:List Value}{ns:List Int},IntsAre vs ns->Vals (ns.map V.int) vs
 | _,_,.nil=>.nil
 | _,_,.cons n t h=>.cons ⟨t,rfl⟩ (lY h)
def RG (H:Hp):Prop:=∀ b,H b=none\/∃ o xs,H b=some (.qz o (.lst xs))
theorem Lp {P:Program}{w:World}{K:PySem.W.Frag}{mg mb:Str->Option Value}{CX:Mx}{k:Nat}{fa a:Addr}{fd:FuncData}{x:Str}{sp:Sp}{aT:Shared}{vs:List Value}{ns:List Int}
  (KX:K.In aT.heap) (Sa:aT.heap.Ns mainGlobals mg) (hb:aT.heap.Ns builtinsNs mb) (hbb:∀ x:Str,x ≠ "__name__" -> mb x=bootBuiltins x) (aae:aT.heap.NoLimit) (hg:aT.gens=#[])
  (ha:aT.heap.get? a=some { cls:=.type "list", data:=.seq vs.toArray }) (hi:IntsAre vs ns) (hl:ns.length<=sizeLine) (hr:fV k callerA)
  (F:∀ base:Heap,K.In base->base.Ns mainGlobals mg->aW P w K mg base CX k fa fd [x] sp) (UT:∀ (s:Shared) (u:Value),BindsTo s fd ⟨[u],[]⟩ [(x,u)])
  (O3:∀ H:Hp,RG H->aB K H a (ns.map V.int)->sp [.ref a] H (λv _=>v=.bl true) λ_ _ _=>False)
  (Rj:∀ H e s',CX [] H aT (λ_ _ _=>False) e s'->False) :
  codeAny (model P w) callerA (.call (.ref fa) ⟨[.ref a],[]⟩) (λr s'=>r=.ok (.ret (.bool true))/\OldK aT.heap s'.heap/\s'.os=aT.os/\AllBare s'.gens) aT:=by
 have rv:=lY hi;have Zc:=hi.length
 -- from an abstract heap in aba nothing but vJ Qd may be tracked
 have core:∀ H:Hp,RG H->aB K H a (ns.map V.int)->gS P w H aT.heap->(∀ b,H b≠none->b=a)->(H a≠none->K.lookup a=none) ->
   codeAny (model P w) callerA (.call (.ref fa) ⟨[.ref a],[]⟩) (λr s'=>r=.ok (.ret (.bool true))/\OldK aT.heap s'.heap/\s'.os=aT.os/\AllBare s'.gens) aT:=by
  intro H hO hS bh hA hK;have vB:∀ {b:Addr}{o:Obj},aT.heap.get? b=some o->H b=none->(nR aT.heap H).get? b=some o:=λe n=>LI e n;have Tn:∀ {b:Addr}{o:Obj}{es:Array DictEntry}{ep:Nat},aT.heap.get? b=some o->o.data=.dict es ep->H b=none:=λ{b o es ep} e d=>by
   cases q:H b with
   | none=>rfl
   | some u=>
    have e':b=a:=hA b (by rw [q];simp);subst e';rw [ha] at e;cases e;have d':Data.seq vs.toArray _=Data.dict es ep:=d;cases d'
  have VZ:∀ {b:Addr}{m:Str->Option Value},aT.heap.Ns b m->(nR aT.heap H).Ns b m:=λ{b m} ⟨o,es,ep,e,d,r⟩=>⟨o,es,ep,vB e (Tn e d),d,r⟩;have hKb:K.In (nR aT.heap H):=λb o e=>vB (KX b o e) (by
   cases q:H b with
   | none=>rfl
   | some u=>
    have e':b=a:=hA b (by rw [q];simp);subst e';rw [hK (by rw [q];simp)] at e;cases e)
  have hM:Mod K mg (nR aT.heap H):=⟨hKb,VZ Sa,⟨mb,VZ hb,hbb⟩,let ⟨mc,h1,h2⟩:=aae;⟨mc,VZ h1,h2⟩⟩;have e0:Oz P w K mg (nR aT.heap H) callerA [] aT H:=⟨rfl,hM,λb o e=>NQ e,Nat.le_of_eq (Ju _ _),trivial,λb hb=>absurd (show b∈([]:List Addr) from hb) (by simp),bh,.of_eq hg⟩;refine codeAny_mono ((F _ hKb (VZ Sa)).run callerA [] aT H ⟨[.ref a],[]⟩ [.ref a] [.ref a] _ _ hr e0 (UT aT (.ref a)) (.cons rfl .nil) (O3 H hO hS)) λr s' h=>?_;cases r with
  | error e=>exact (Rj H e s' h).elim
  | ok fl=>
   cases fl with
   | next=>exact False.elim h
   | brk=>exact False.elim h
   | cont=>exact False.elim h
   | ret u=>
    obtain ⟨v,H',os,bare,un,Z8,r',q⟩:=h;have q':v=.bl true:=q;subst q';obtain rfl:u=Value.bool true:=r';refine ⟨rfl,OldK.of_keep λb o e=>?_,os,bare⟩;cases q:H b with
    | none=>exact un.keep b o e q (by intro z;exact absurd (show b∈([]:List Addr) from z) (by simp)) (by simp)
    | some u=>
     rcases hO b with z | ⟨ob,xs,z⟩
     ·rw [q] at z;cases z
     ·have z2:=un.ju b ob _ z;obtain ⟨e1,_⟩:=bh b _ z;obtain ⟨e2,_⟩:=Z8 b _ z2;rw [e] at e1;cases e1;exact e2
 cases hk:K.lookup a with
 | some o=>
  -- vJ Qd is one of vJ Ld own objects
  have e:=KX a o hk;rw [ha] at e;cases e;refine core (λ_=>none) (λ_=>.inl rfl) (.inr ⟨_,vs.toArray,_,hk,rfl,rfl,rfl,by rw [zf,Zc];exact hl,by simpa using rv⟩) (λb u z=>by have z':(none:Option HO)=some u:=z;cases z') (λb z=>absurd rfl z) λz=>absurd rfl z
 | none=>
  refine core (λb=>if b=a then some (.qz { cls:=.type "list", data:=.seq vs.toArray } (.lst (ns.map V.int))) else none) (λb=>?_) (.inl (.inr ⟨{ cls:=.type "list", data:=.seq vs.toArray },if_pos rfl⟩)) (λb u z=>?_) (λb z=>?_) λ_=>hk
  ·by_cases hb:b=a
   ·exact .inr ⟨_,_,if_pos hb⟩
   ·exact .inl (if_neg hb)
  ·by_cases hb:b=a
   ·have z':=(if_pos hb).symm.trans z;cases z';subst hb;exact ⟨ha,by rw [zA];exact hl,vs,_,rv,ha⟩
   ·have z':=(if_neg hb).symm.trans z;cases z'
  ·by_cases hb:b=a
   ·exact hb
   ·exact absurd (if_neg hb) z
theorem MR {l:PySem.W.OpenLaw}{n k:Nat}{q:Program}{loose:List Str}{XP:(Str->Option Value)->Heap->Prop}{YP:World->Heap->Prop}{d:DefRec}{K:Params->PySem.W.Frag}{CX:World->Mx}{sp:World->Sp}{x:Str}
  (hn:l.most=some n) (hn2:n<=sizeLine) (UQ:d.params.defaults=[]) (hr:fV k callerA)
  (hY:∀ (w:World) (h:Heap),YP w h->(K w.params).In h)
  (F:∀ (w:World) (mg:Str->Option Value) (fa:Addr) (h:Heap),(K w.params).In h->h.Ns mainGlobals mg->mg d.name=some (.ref fa) ->
   ∃ fd:FuncData,(∀ (s:Shared) (u:Value),BindsTo s fd ⟨[u],[]⟩ [(x,u)]) /\
    ∀ base:Heap,(K w.params).In base->base.Ns mainGlobals mg->aW l.prog w (K w.params) mg base (CX w) k fa fd [x] (sp w))
  (O3:∀ (w:World) (H:Hp) (a:Addr) (ns:List Int),ns.length<=n->RG H->aB (K w.params) H a (ns.map V.int)->sp w [.ref a] H (λv _=>v=.bl true) λ_ _ _=>False)
  (Rj:∀ (w:World) (H:Hp) (s:Shared) (e:Value) (s':Shared),CX w [] H s (λ_ _ _=>False) e s'->False) :
  PySem.W.WalkO q loose XP YP l.row.toRowW d [] (λf vs=>PySem.call f vs):=by
 refine Att.rL hn UQ λw c6 aT mg mb fa o pm cd doc a vs ns G Y ho hd LJ hmg Q9 hints hlen hg=>?_;have KX:=hY w _ Y;obtain ⟨fd,hb,hF⟩:=F w mg fa _ KX G.T.g hmg;exact Lp KX G.T.g G.T.b G.T.builtins G.T.nolimit hg Q9 hints (yG hlen hn2) hr hF hb (λH hO hS=>O3 w H a ns hlen hO hS) λH e s'=>Rj w H aT e s'
def jH (s:Stmt):Arguments:=match s with
 | .FunctionDef _ a _ _ _ _ _ _ _ _=>a
 | _=>{ posonlyargs:=[],args:=[],vararg:=none,kwonlyargs:=[],kw_defaults:=[],kwarg:=none,defaults:=[] }
def af (s:Stmt):List Stmt:=match s with
 | .FunctionDef _ _ b _ _ _ _ _ _ _=>b
 | _=>[]
def aj (s:Stmt):Scope:=match s with
 | .FunctionDef _ _ _ _ _ _ sc _ _ _=>sc
 | _=>{ kind:=.function,names:=[],isGenerator:=false,isCoroutine:=false }
abbrev dQ:Mx:=λ_ _ _ _ _ _=>False
abbrev E0:XK:=λ_ _ _=>False
theorem aq {X:Cx}:Passes dQ X E0:=λ_ _ _ _ _ _ _ h=>h.elim
structure bq (K:PySem.W.Frag) (x qual:Str) (st:Stmt) (f:Addr) (fd:FuncData):Prop where
 ex:∃ (oc:Value) (od:Option Addr) (kV doc pm:Value) (an:Option Addr) (bO ct:Value) (OT:Array (Option Value)),
  fd=xO x qual (jH st) (af st) (aj st) .none kV doc pm an bO ct/\K.lookup f=some ⟨oc,od,.func fd,OT⟩/\PySem.W.codeIn K bO qual=true
 kp:zY K (.ref f)=true
section
variable {P:Program}{w:World}{K:PySem.W.Frag}{mg:Str->Option Value}{base:Heap}
theorem bq.ok {x qual:Str}{st:Stmt}{f:Addr}{fd:FuncData}{N ps:List Str}{k:Nat}{sp:Sp}(F:bq K x qual st f fd)(S:aF N ps (aj st))(len:∀ vs H Q E,sp vs H Q E->vs.length=ps.length)
  (LK:∀ (bO:Value) (A:Around) (outer:List Env) (s:Shared) (H:Hp) (vs:List V) (Q:VK) (E:XK),fV k (A.deeper (envOfC qual (aj st) s.heap.objs.size f bO))->sp vs H Q E ->
   ∃ t,oE (nZ dQ P w K mg base N qual (aj st) f bO A outer s H E).V0 (af st) t/\t { nx:=λ_ H'=>Q .bF H',rt:=Q } (start N vs) H):aW P w K mg base dQ (k + 1) f fd ps sp:=by
 obtain ⟨oc,od,kV,doc,pm,an,bO,ct,OT,rfl,lk,LJ⟩:=F.ex;refine Vb lk LJ S len λA outer s H vs Q E hr O3=>?_;obtain ⟨t,h,q⟩:=LK bO A outer s H vs Q E hr O3;exact ⟨t,h.V0,q⟩
theorem bq.binds {x qual:Str}{st:Stmt}{f:Addr}{fd:FuncData}{ps:List Str}(F:bq K x qual st f fd)
  (h:∀ (kV doc pm:Value) (an:Option Addr) (bO ct:Value) (us:List Value),us.length=ps.length->bindArgs (xO x qual (jH st) (af st) (aj st) .none kV doc pm an bO ct) ⟨us,[]⟩=pure (ps.zip us)):Binds K fd ps []:=by
 obtain ⟨oc,od,kV,doc,pm,an,bO,ct,OT,rfl,lk,LJ⟩:=F.ex;exact .all (h kV doc pm an bO ct)
theorem fun_mk {x qual:Str}{st:Stmt}{f:Addr}{oc:Value}{od an:Option Addr}{OT:Array (Option Value)}{kV doc pm bO ct:Value}(l:K.lookup f=some ⟨oc,od,.func (xO x qual (jH st) (af st) (aj st) .none kV doc pm an bO ct),OT⟩)
  (c:PySem.W.codeIn K bO qual=true) (k:zY K (.ref f)=true):bq K x qual st f (xO x qual (jH st) (af st) (aj st) .none kV doc pm an bO ct):=⟨⟨oc,od,kV,doc,pm,an,bO,ct,OT,rfl,l,c⟩,k⟩
end
section
variable {X:Cx}
theorem pv (i:Nat){x:Str}{pos:Pos}(hN:X.N[i]?=some x:=by rfl)(hv:Pu X.env.scope x=true:=by rfl)(hd:(x == ("__debug__" : Str))=false:=by decide)
  (LJ:(x == ("__classdict__" : Str))=false:=by decide):PE X (.Name x pos) (Kf i):=Qu hN (MS hv) hd LJ
end
def ay (H H':Hp):Prop:=∀ b o,H b=some o->H' b=some o
theorem ay.refl (H:Hp):ay H H:=λ_ _ h=>h
theorem ay.trans {H H1 H2:Hp}(a:ay H H1)(b:ay H1 H2):ay H H2:=λc o h=>b c o (a c o h)
theorem ay.seq {K:PySem.W.Frag}{H H':Hp}{a:Addr}{xs:List V}(e:ay H H')(h:aB K H a xs):aB K H' a xs:=by
 rcases h with (h | ⟨o,h⟩) | h
 ·exact .inl (.inl (e _ _ h))
 ·exact .inl (.inr ⟨o,e _ _ h⟩)
 ·exact .inr h
theorem i7 {prog:Program}{w:World}{A:Around}{R:Result->Shared->Prop}{s:Shared}{elt target iter:Expr}{ifs:List Expr}{scope:Scope}{pos:Pos}{it acc:Value}{env:Env}(I:Nat->Shared->Prop)
  (turn:∀ n s,I n s->wpAny (model prog w) A (pyNext it) (λr aT=>match r with
   | none=>R (.ok .next) aT
   | some v=>wpAny (model prog w) A (letOwnedTupleGo target it v) (λ_ OL=>wpAny (model prog w) A (assign target env v) (λ_ nv=>
     wpAny (model prog w) A (forIn ifs true λc r=>if r=true then do let ok <- isTrue c env (eval c env);pure (ForInStep.yield ok) else pure (ForInStep.yield r)) (λok PY=>
      if ok=true then wpAny (model prog w) A (eval elt env) (λx SD=>
       wpAny (model prog w) A (call (.builtin "list.append") [acc,x]) (λ_ SA=>∃ m,m < n/\I m SA) (λ_ _=>False) SD) (λ_ _=>False) PY
      else ∃ m,m < n/\I m PY) (λ_ _=>False) nv) (λ_ _=>False) OL) (λ_ _=>False) aT) (λ_ _=>False) s)
  (n:Nat) (h:I n s) :
  codeAny (model prog w) A (.compLoop (.ListComp elt [⟨target,iter,ifs,0⟩] scope pos) 0 it acc env) R s:=by
 refine codeAny_loop rfl I (λn s hI=>?_) n h;show wpAny _ A ((compTurn (.ListComp elt [⟨target,iter,ifs,0⟩] scope pos) 0 it acc env).onRaise (λx=>do noteFrame x env;theTreesLotGoes x)) _ _ s;refine wpAny_noted ?_;rw [compTurn_list];refine wpAny_bind (wpAny_standAt (wpAny_bind (wpAny_mono (turn n s hI) (λr aT dO=>?_) λ_ _ h'=>h'.elim)));cases r with
 | none=>exact wpAny_pure dO
 | some v=>
  refine wpAny_bind (wpAny_mono dO (λ_ OL Ux=>?_) λ_ _ h'=>h'.elim);refine wpAny_bind (wpAny_mono Ux (λ_ nv ZL=>wpAny_bind (wpAny_mono ZL (λok PY Uw=>?_) λ_ _ h'=>h'.elim)) λ_ _ h'=>h'.elim);cases ok with
  | false=>exact wpAny_pure ⟨rfl,Uw⟩
  | true=>
   exact wpAny_bind (wpAny_bind (wpAny_mono Uw (λx SD ZK=>wpAny_bind (wpAny_mono ZK (λ_ SA ZJ=>wpAny_pure (wpAny_pure ⟨rfl,ZJ⟩)) λ_ _ h'=>h'.elim)) λ_ _ h'=>h'.elim))
def fK (names:List (Str×NameKind))(env:Env)(cs:List (Str×Addr)):List (Str×Addr):=
 names.foldl (λcs p=>if p.2=.free then (match env.cells.lookup p.1 with | some c=>(p.1,c)::cs | none=>cs) else cs) cs
theorem iO {env:Env}:∀ (names:List (Str×NameKind)) (cs:List (Str×Addr)),(∀ y∈names,y.2=.free->∃ c,env.cells.lookup y.1=some c) ->
  (forIn names cs λx r=>(if (x.2 == NameKind.free)=true then do let a <- cellOf env x.1;pure (ForInStep.yield ((x.1,a)::r)) else pure (ForInStep.yield r):Sem _))=pure (fK names env cs)
 | [],cs,_=>by simp [fK]
 | (n,k)::r,cs,h=>by
  have ih:=λcs=>iO r cs λy hy=>h y (zc _ hy);simp only [List.forIn_cons];by_cases hk:k=.free
  ·subst hk;obtain ⟨c,e⟩:=h (n,.free) zo rfl;have e':env.cells.lookup n=some c:=e;have ec:cellOf env n=pure c:=by unfold cellOf;rw [e']
   simp only [beq_self_eq_true,if_true,ec,pure_bind];rw [ih];simp [fK,e']
  ·have hb:(k == NameKind.free)=false:=by simpa using hk
   simp only [hb,zw,if_false,pure_bind];rw [ih];simp [fK,hk]
theorem eL {scope:Scope}{env:Env}(h:∀ y∈scope.names,y.2=.free->∃ c,env.cells.lookup y.1=some c):closureFor scope env=pure (fK scope.names env []):=by unfold closureFor;have:=iO scope.names [] h;simp only [bind_pure];exact this
theorem rF {env:Env}:∀ (names:List (Str×NameKind)) (cs:List (Str×Addr)) (x:Str) (c:Addr),(x,c)∈fK names env cs->(x,c)∈cs\/env.cells.lookup x=some c
 | [],cs,x,c,h=>.inl h
 | (n,k)::r,cs,x,c,h=>by
  have h':(x,c)∈fK r env (if k=.free then (match env.cells.lookup n with | some c=>(n,c)::cs | none=>cs) else cs):=h;rcases rF r _ x c h' with q | q
  ·split at q
   ·cases e:env.cells.lookup n with
    | none=>rw [e] at q;exact .inl q
    | some d=>
     rw [e] at q;rcases zG.mp q with z | z
     ·cases z;exact .inr e
     ·exact .inl z
   ·exact .inl q
  ·exact .inr q
theorem mP {env:Env}:∀ (names:List (Str×NameKind)) (cs:List (Str×Addr)) (x:Str),(∃ c,(x,c)∈cs)->∃ c,(x,c)∈fK names env cs
 | [],cs,x,h=>h
 | (n,k)::r,cs,x,⟨c,h⟩=>by
  refine mP r _ x ?_;dsimp only;split
  ·split
   ·exact ⟨c,zc _ h⟩
   ·exact ⟨c,h⟩
  ·exact ⟨c,h⟩
theorem rG {env:Env}:∀ (names:List (Str×NameKind)) (cs:List (Str×Addr)) (x:Str),(x,NameKind.free)∈names->(∃ c,env.cells.lookup x=some c)->∃ c,(x,c)∈fK names env cs
 | [],_,_,h,_=>by simp at h
 | (n,k)::r,cs,x,h,⟨c,e⟩=>by
  rcases zG.mp h with z | z
  ·have e1:x=n:=congrArg Prod.fst z;have e2:NameKind.free=k:=congrArg Prod.snd z;subst e1 e2;refine mP r _ x ⟨c,?_⟩;dsimp only;rw [if_pos rfl,e];exact zo
  ·exact rG r _ x z ⟨c,e⟩
theorem cM {β:Type}:∀ (l:List (Str×β)) (x:Str) (c:β),(x,c)∈l->∃ d,l.lookup x=some d
 | (n,d)::r,x,c,h=>by
  cases hx:x == n with
  | true=>exact ⟨d,by simp [yN,hx]⟩
  | false=>
   simp only [yN,hx];rcases zG.mp h with z | z
   ·cases z;simp at hx
   ·exact cM r x c z
theorem wl {names:List (Str×NameKind)}{env:Env}{x:Str}{c:Addr}(h:(fK names env []).lookup x=some c):env.cells.lookup x=some c:=by
 rcases rF names [] x c (zv h) with q | q
 ·simp at q
 ·exact q
theorem gf {names:List (Str×NameKind)}{env:Env}{x:Str}{c:Addr}(h:(x,NameKind.free)∈names)(e:env.cells.lookup x=some c):(fK names env []).lookup x=some c:=by obtain ⟨d,hd⟩:=rG names [] x h ⟨c,e⟩;obtain ⟨d',O7⟩:=cM _ _ _ hd;have:=wl O7;rw [e] at this;cases this;exact O7
theorem qJ {env:Env}:∀ {names:List (Str×NameKind)}{x:Str},names.lookup x=some .free ->
  (names.map λ(n,k)=>if (k == NameKind.free && env.scope.kind == .function && env.kindOf n == some .cell) then (n,NameKind.cell) else (n,k)).lookup x=some .cell \/
  (names.map λ(n,k)=>if (k == NameKind.free && env.scope.kind == .function && env.kindOf n == some .cell) then (n,NameKind.cell) else (n,k)).lookup x=some .free
 | [],_,h=>by simp at h
 | (n,k)::r,x,h=>by
  have ih:=@qJ env r x;show List.lookup x ((if (k == NameKind.free && env.scope.kind == .function && env.kindOf n == some .cell)=true then (n,NameKind.cell) else (n,k))::_)=_\/List.lookup x ((if (k == NameKind.free && env.scope.kind == .function && env.kindOf n == some .cell)=true then (n,NameKind.cell) else (n,k))::_)=_;by_cases hc:(k == NameKind.free && env.scope.kind == .function && env.kindOf n == some .cell)=true
  ·rw [if_pos hc];cases hx:x == n with
   | true=>left;simp [yN,hx]
   | false=>
    simp only [yN,hx] at h ⊢;exact ih h
  ·rw [if_neg hc];cases hx:x == n with
   | true=>
    simp only [yN,hx] at h;cases h;right;simp [yN,hx]
   | false=>
    simp only [yN,hx] at h ⊢;exact ih h
structure aD (own:List Str) (caps:List Nat) (N:List Str) (sc scope:Scope):Prop where
 kind:scope.kind=.function
 nK:∀ y∈scope.names,y.2≠.cell
 loc:∀ y∈scope.names,y.2=.local->scope.names.lookup y.1=some .local
 fr:∀ y∈scope.names,y.2=.free->sc.names.lookup y.1=some .cell\/sc.names.lookup y.1=some .free
 cap:∀ i∈caps,i < N.length/\scope.names.lookup ((N[i]?).getD Str.empty)=some .free
def fD (X:Cx)(own:List Str)(caps:List Nat)(scope:Scope)(s:Shared)(H:Hp)(fp:List Addr)(C:Addr):Cx:=
 { X with N:=own++caps.map (λi=>(X.N[i]?).getD Str.empty),c6:=s,JJ:=H,env:=compEnvC scope (fK scope.names X.env []) C X.env,outer:=X.stack,ex:=fp,fn:=λ_=>false,pn:=[],xe:=λ_ _=>False }
def dG (n:Nat)(caps:List Nat)(σ:St):St:=List.replicate n none++caps.map λi=>(σ[i]?).join
section
variable {X:Cx}{ai:List (Addr×Obj)}{σ:St}{H:Hp}{s:Shared}
theorem iK {scope:Scope}{env:Env}(nc:∀ y∈scope.names,y.2≠.cell){x:Str}{k:NameKind}(hk:k=.cell\/k=.free)(h:(relabel scope env).names.lookup x=some k):(x,NameKind.free)∈scope.names:=by
 have hm:=zv h;obtain ⟨⟨n,k0⟩,hy,e⟩:=zX.mp hm;dsimp only at e;split at e
 ·rename_i hc;simp only [zW,beq_iff_eq] at hc;have e1:n=x:=congrArg Prod.fst e;subst e1;rw [hc.1.1] at hy;exact hy
 ·cases e;rcases hk with z | z
  ·subst z;exact absurd rfl (nc _ hy)
  ·subst z;exact hy
theorem qu {own:List Str}{caps:List Nat}{scope:Scope}{fp:List Addr}{D C:Addr}{o:Obj}{h1:Heap}{tk:Nat}(I:Inv X ai σ H s)(S:aD own caps X.N X.env.scope scope)
  (f:∀ b∈fp,jg X ai H b) (fl:∀ b∈fp,b < s.heap.objs.size) (hD:s.heap.objs.size<=D) (hC:s.heap.objs.size<=C) (ve:D≠C) (keep:∀ b o,s.heap.get? b=some o->h1.get? b=some o)
  (Sa:h1.Ns C λ_=>none) (nS:h1.get? D=some o) (ho:∀ v,o.data≠.cell v) :
  Inv (fD X own caps scope s H fp C) [(D,o)] (dG own.length caps σ) H { s with heap:=h1,toks:=tk }:=by
 have sub:∀ b∈Jy X.stack,b < s.heap.objs.size:=λb hb=>by
  rcases zG.mp (I.eZ b hb) with e | hb
  ·rw [e];exact I.lt
  ·by_cases q:b < s.heap.objs.size
   ·exact q
   ·exact absurd hb (I.QC (xM q))
 refine ⟨⟨I.ok.mod,S.kind,I.ok.glob,I.ok.blt,hC,λx y c h1 h2=>I.ok.inj x y c (wl h1) (wl h2),λx hx=>?_,λx c z _=>absurd (show false=true from z) za,I.ok.hd,I.ok.frames,.inl rfl,
   λb hb=>⟨zt (zq (fl b hb) hC),λx c e=>(f b hb).2.2.2.2.1 x c (wl e)⟩,I.bs,yG I.ok.Mk I.sz,λb ob e hb=>?_,λb hb hs=>?_,I.stack,I.nA⟩,
  rfl,I.bare,Un.kept keep,⟨_,Sa,λi x v e1 e2 e3=>?_⟩,λx c e=>?_,I.bh.fresh hC,λx c e=>I.fU x c (wl e),λp hp=>?_,I.bh.kept keep,?_⟩
 ·have hm:(x,NameKind.free)∈scope.names:=by
   rcases hx with hx | hx
   ·exact iK S.nK (.inl rfl) hx
   ·exact iK S.nK (.inr rfl) hx
  obtain ⟨c,hc⟩:=I.ok.has x (S.fr _ hm rfl);exact ⟨c,gf hm hc⟩
 ·rcases (f b hb).2.2.2.1 with z | z
  ·exact I.ok.Jb b ob e z
  ·exact absurd (zq (Heap.lt_size e) (yG I.ok.Mk z)) (yM _)
 ·rcases zG.mp (I.eZ b hs) with e | e
  ·exact (f b hb).2.1 e
  ·exact (f b hb).2.2.1 e
 ·have L7:(List.replicate own.length (none:Option V)++caps.map λi=>(σ[i]?).join)[i]?=some (some v):=e2;have L8:(own++caps.map (λi=>(X.N[i]?).getD Str.empty))[i]?=some x:=e1;have hi:own.length<=i:=by
   by_cases q:i < own.length
   ·rw [yZ (by simpa using q),yi,if_pos q] at L7;cases L7
   ·exact xM q
  rw [yL (by simpa using hi),yb,zD] at L7;rw [yL hi,zD] at L8;cases ek:caps[i - own.length]? with
  | none=>rw [ek] at L8;cases L8
  | some k=>
   rw [ek] at L8 L7;have ex:(X.N[k]?).getD Str.empty=x:=Option.some.inj L8;have ev:(σ[k]?).join=some v:=Option.some.inj L7;have Oi:σ[k]?=some (some v):=by
    cases q:σ[k]? with
    | none=>rw [q] at ev;cases ev
    | some y=>rw [q] at ev;exact congrArg some ev
   obtain ⟨hl,hf⟩:=S.cap k (zC ek);have eN:X.N[k]?=some x:=by
    rw [zF hl] at ex ⊢;exact congrArg some ex
   rw [ex] at hf;have hm:=zv hf;have UP:=S.fr _ hm rfl;obtain ⟨m,_,UK⟩:=I.loc;obtain ⟨u,ru,lk⟩:=UK k x v eN Oi (.inr UP);refine ⟨u,ru,.inr ⟨qJ hf,?_⟩⟩;rcases lk with ⟨kl,_⟩ | ⟨_,c,hc,ob,nP,hd⟩
   ·have N3:X.env.scope.names.lookup x=some .local:=kl;rcases UP with z | z
    ·have z':X.env.scope.names.lookup x=some .cell:=z;rw [z'] at N3;cases N3
    ·have z':X.env.scope.names.lookup x=some .free:=z;rw [z'] at N3;cases N3
   ·exact ⟨c,gf hm hc,ob,keep c ob nP,hd⟩
 ·obtain ⟨v,ob,nP,hd⟩:=I.cell x c (wl e);exact ⟨v,ob,keep c ob nP,hd⟩
 ·have e:p=(D,o):=by simpa using (show p∈[]++[(D,o)] from hp)
  subst e;refine ⟨nS,I.bh.fresh hD,ve,λz=>?_,ho⟩;exact absurd (zq (sub D z) hD) (yM _)
 ·show (dG own.length caps σ).length=(own++caps.map (λi=>(X.N[i]?).getD Str.empty)).length;simp [dG]
def Vp (X:Cx)(ifs:List Expr)(t:TT):Prop:=
 ∀ (ai:List (Addr×Obj)) (s:Shared) (σ:St) (H:Hp) (Q:Bool->Hp->Prop),Inv X ai σ H s->t σ H Q ->
  wpAny (model X.prog X.w) X.A (forIn ifs true λc r=>if r=true then do let ok <- isTrue c X.env (eval c X.env);pure (ForInStep.yield ok) else pure (ForInStep.yield r)) (TP X ai σ Q) X.xe s
def M1:TT:=λ_ H Q=>Q true H
theorem wP:Vp X [] M1:=λ_ s σ H Q I h=>wpAny_tests_nil ⟨H,I,h⟩
theorem nG {c:Expr}{t:TT}(h:PT X c t):Vp X [c] t:=λai s σ H Q I q=>wpAny_tests_one (h ai s σ H Q I q)
def Kl (n:Nat)(caps:List Nat)(wi:TI)(g:TG)(tc:TT)(te:TE):TE:=fun σ H Q=>wi σ H λJ H1=>∃ W:Nat->Nat->St->List V->Hp->Prop,(∃ m,W 0 m (dG n caps σ) [] H1)/\∀ i m τ acc H,W i m τ acc H ->
 (J.stop i H/\acc.length<=sizeLine/\∀ p,H p=none->Q (.ref p) (upd H p (.lst acc))) \/
 (J.go i H/\acc.length < sizeLine/\∀ x H',J.oA i H x H'->g x τ H' fun bu H2=>tc bu H2 λb H3=>if b=true then te bu H3 λy H4=>∃ m',m' < m/\W (i + 1) m' bu (acc++[y]) H4 else ∃ m',m' < m/\W (i + 1) m' bu acc H3)
theorem gS.Kd {P:Program}{w:World}{H:Hp}{h:Heap}{a:Addr}{o:HO}(x:gS P w H h)(hn:H a=none)(new:bA P w (upd H a o) h a o):gS P w (upd H a o) h:=λb u e=>by
 by_cases hb:b=a
 ·subst hb;rw [xQ] at e;cases e;exact new
 ·rw [xj hb] at e;exact (x b u e).gG (λc v _ q=>q) (λc q=>by rw [xj (xV q hn)];exact q) λc xs q=>by rw [xj (xV q hn)];exact q
theorem wc {own:List Str}{caps:List Nat}{elt tg iter:Expr}{ifs:List Expr}{scope:Scope}{pos:Pos}{wi:TI}{g:TG}{tc:TT}{te:TE}(hc:X.calm=true)(S:aD own caps X.N X.env.scope scope)(hi:PI X tg iter wi)
  (hg:∀ s H fp C,PG (fD X own caps scope s H fp C) tg g) (ht:∀ s H fp C,Vp (fD X own caps scope s H fp C) ifs tc) (he:∀ s H fp C,PE (fD X own caps scope s H fp C) elt te)
  (hs:∀ x,foldedSetIterable iter X.env x=pure x:=by intro _;rfl):PE X (.ListComp elt [⟨tg,iter,ifs,0⟩] scope pos) (Kl own.length caps wi g tc te):=by
 intro ai s σ H Q I h;rw [eval_ListComp];refine wpAny_comprehension_free (use:=none) (cl:=fK scope.names X.env []) rfl hs (eL λy hy e=>I.ok.has y.1 (S.fr y hy e)) S.kind S.loc
  (wpAny_mono (hi ai s σ H _ I h) (λv s1 h1=>aZ h1 λUk s2 h2=>?_) λ_ _ e=>e)
 obtain ⟨it,fp,tn,J,H2,e,I2,T,MC,f2,W,⟨m0,w0⟩,turn⟩:=h2;subst e;refine wpAny_newObj_type (wpAny_newFunctionEnv S.nK (by intro y hy;simp at hy) (λdO dP bZ=>?_) S.kind);dsimp only at dP bZ ⊢;generalize LO:s2.heap.push { cls:=.type "list", dict:=none,data:=.seq ([]:List Value).toArray }=G at dP bZ ⊢;have hG:G.objs.size=s2.heap.objs.size + 1:=by rw [<-LO,Heap.size_push]
 have ve:s2.heap.objs.size≠G.objs.size:=by rw [hG];exact zt (Nat.lt_succ_self _)
 have nU:s2.heap.objs.size<=G.objs.size:=by rw [hG];exact Nat.le_succ _
 have below:∀ b,b < s2.heap.objs.size->b≠G.objs.size:=λb hb=>by rw [hG];exact zt (xC hb)
 have old:∀ b o,s2.heap.get? b=some o->dO.get? b=some o:=λb o e=>bZ.extBut b o (below b (Heap.lt_size e)) (Heap.get?_push_of_some _ (LO ▸ Heap.get?_push_of_some _ e));have nS:dO.get? s2.heap.objs.size=some { cls:=.type "list", dict:=none,data:=.seq ([]:List Value).toArray }:=bZ.extBut _ _ ve (Heap.get?_push_of_some _ (LO ▸ Heap.get?_push_size _ rfl));have fl:∀ b∈fp,b < s2.heap.objs.size:=λb hb=>let ⟨o,e,_⟩:=T.obj _ _ MC b hb;Heap.lt_size e;have iG:dO.Ns G.objs.size λ_=>none:=dP;have I4:=qu (tk:=s2.toks + ([]:List (Str×Value)).length) I2 S f2 fl (zJ _) nU ve old iG nS (λv z=>nomatch z);have Kq:tn 0 dO:=T.keep _ _ _ MC λb _ o e=>old b o e;generalize UE:({ s2 with heap:=dO,toks:=s2.toks + ([]:List (Str×Value)).length }:Shared)=s4 at I4 ⊢;have e4:s4.heap=dO:=by rw [<-UE]
 rw [<-e4] at Kq
 -- vJ loop
 have loop:codeAny (model X.prog X.w) X.A (.compLoop (.ListComp elt [⟨tg,iter,ifs,0⟩] scope pos) 0 (.ref it) (.ref s2.heap.objs.size) (compEnvC scope (fK scope.names X.env []) G.objs.size X.env))
   (compPost (model X.prog X.w) X.A X.xe none (EP X ai σ Q) (.ref s2.heap.objs.size) G.objs.size) s4:=by
  let Y:=fD X own caps scope s2 H2 fp G.objs.size
  have gH:∀ {H':Hp}{aC:List Value}{n:Nat},(∀ b∈fp,H' b=none)->∀ b∈fp,jg Y [(s2.heap.objs.size,({ cls:=.type "list", data:=.seq aC.toArray n }:Obj))] H' b:=λ{H' aC n} hn b hb=>by
   refine ⟨hn b hb,below b (fl b hb),λz=>?_,.inl hb,λx c e=>(f2 b hb).2.2.2.2.1 x c (wl e),λp hp=>?_⟩
   ·rcases zG.mp (I2.eZ b z) with e | e
    ·exact (f2 b hb).2.1 e
    ·exact (f2 b hb).2.2.1 e
   ·have e:p=(s2.heap.objs.size,({ cls:=.type "list", data:=.seq aC.toArray n }:Obj)):=by simpa using (show p∈[]++[_] from hp)
    subst e;exact yf (fl b hb)
  refine i7 (λn s'=>∃ i τ acc aC k H',Inv Y [(s2.heap.objs.size,({ cls:=.type "list", data:=.seq aC.toArray k }:Obj))] τ H' s'/\tn i s'.heap/\(∀ b∈fp,H' b=none)/\Vals acc aC/\W i n τ acc H') ?_ m0
   ⟨0,_,[],[],0,H2,I4,Kq,λb hb=>(f2 b hb).1,.nil,w0⟩
  rintro n s5 ⟨i,τ,acc,aC,k,H5,I5,JO,MO,uG,w5⟩;rcases turn i n τ acc H5 w5 with ⟨stop,hz,q⟩ | ⟨go,hz,step⟩
  ·refine aZ (T.done Y rfl rfl rfl hc i _ s5 τ H5 (λ_ _=>False) I5 (gH MO) JO stop) λr s6 ⟨hr,I6⟩=>?_;subst hr;obtain ⟨eD,nD,_,_,_⟩:=I6.pin _ (zS _ (zE.mpr rfl));obtain ⟨m6,Ra,_⟩:=I6.loc;refine ⟨m6,Ra,λh' Oa=>?_⟩;have Sh:H5 G.objs.size=none:=I6.free;have eD':h'.get? s2.heap.objs.size=some { cls:=.type "list", data:=.seq aC.toArray k }:=Oa.extBut _ _ ve eD;have LB:gS X.prog X.w H5 h':=λb u e=>(I6.bh b u e).gG (λc v hcv qv=>Oa.extBut c v (by
     rcases hcv with z | z
     ·subst z;exact xV e Sh
     ·exact xV z Sh) qv) (λ_ q=>q) λ_ _ q=>q
   refine ⟨.ref s2.heap.objs.size,_,?_,rfl,q _ nD⟩;have ub:=I6.base;refine I2.Mj (ch:=fp) (s':={ s6 with heap:=h' }) I6.os ⟨λb o e n' hb hx=>Oa.extBut b o (below b (Heap.lt_size e)) (ub.keep b o e n' hb hx),λb o e n' hb hx=>?_,λb o e n' hx=>?_,λb o e hx=>?_,λb xs e=>?_,λb o u e=>?_,λb ps e=>?_⟩
    (LB.Kd nD ⟨hz,aC,k,uG,eD'⟩) I6.bare λb hb=>⟨(f2 b hb).2.2.2.1,(f2 b hb).2.1,(f2 b hb).2.2.2.2.1,(f2 b hb).2.2.2.2.2⟩
   ·obtain ⟨sl,e'⟩:=ub.slot b o e n' hb hx;exact ⟨sl,Oa.extBut b _ (below b (Heap.lt_size e)) e'⟩
   ·rw [xj (zt (Heap.lt_size e))];exact ub.free b o e n' hx
   ·obtain ⟨o',e'⟩:=ub.there b o e hx;exact ⟨o',Oa.extBut b _ (below b (Heap.lt_size e)) e'⟩
   ·have z:=ub.aS b xs e;rw [xj (xV z nD)];exact z
   ·have z:=ub.ju b o u e;rw [xj (xV z nD)];exact z
   ·obtain ⟨more,z⟩:=ub.jO b ps e;exact ⟨more,by rw [xj (xV z nD)];exact z⟩
  ·refine aZ (T.item Y rfl rfl rfl hc i _ s5 τ H5 (λ_ _=>False) I5 (gH MO) JO go) λr s6 ⟨u,hr,h6⟩=>?_;subst hr;refine aZ h6 λ_ s7 ⟨x,H7,I7,r7,y7,Ko,U9⟩=>?_;have Vx:=I7.pinned (gH U9) (T.obj _ _ Ko);refine aZ (hg s2 H2 fp G.objs.size _ s7 τ H7 x u _ Vx r7 (step x H7 y7)) λ_ s8 ⟨oG,H8,I8,q8⟩=>?_;refine aZ (ht s2 H2 fp G.objs.size _ s8 oG H8 _ I8 q8) λok s9 ⟨H9,I9,q9⟩=>?_
   -- vJ gM state behind vJ turn
   have back:∀ {s':Shared}{OB:St}{H':Hp},Inv Y ([(s2.heap.objs.size,({ cls:=.type "list", data:=.seq aC.toArray k }:Obj))]++gJ fp s7.heap) OB H' s'->(tn (i + 1) s'.heap/\∀ b∈fp,H' b=none):=λ{s' OB H'} Ib=>
    ⟨T.keep _ _ _ Ko λb hb o e=>(Ib.pin (b,o) (zS _ (zS _ (qF hb e)))).1,λb hb=>by
     obtain ⟨o,e,d⟩:=T.obj _ _ Ko b hb;exact (Ib.pin (b,o) (zS _ (zS _ (qF hb e)))).2.1⟩
   cases ok with
   | false=>
    obtain ⟨m',Js,w'⟩:=q9;obtain ⟨sb,fb⟩:=back I9;exact ⟨m',Js,i + 1,oG,acc,aC,k,H9,I9.cO,sb,fb,uG,w'⟩
   | true=>
    refine aZ (he s2 H2 fp G.objs.size _ s9 oG H9 _ I9 q9) λy gj ⟨yv,eX,Mw,S9,Qp⟩=>?_;obtain ⟨m',Js,w'⟩:=Qp;obtain ⟨sb,fb⟩:=back Mw;obtain ⟨eD,nD,MF,Tp,_⟩:=Mw.pin (s2.heap.objs.size,_) (zS _ (yh _ (zE.mpr rfl)));have hl:acc.length=aC.length:=uG.length;refine call_meets F.slot_list_append ⟨_,eD,rfl⟩ F.entry_list_append (F.args_list_append_2 _ _) (PySem.list_append s2.heap.objs.size aC.toArray k y (by rw [zf];omega)) ⟨eD,?_⟩;have q:=PySem.IsL.update eD (λa:Array Value=>a.push y);have Iu:Inv Y [] oG eX gj:=Mw.dY λp hp=>nomatch hp;have It:=Iu.turned (t':=gj.toks) (it:=s2.heap.objs.size) (h':=gj.heap.update s2.heap.objs.size (Obj.mapSeq (λa:Array Value=>a.push y))) (λb o hb e=>(Heap.get?_update_other gj.heap _ (Ne.symm hb)).trans e) nD MF (.inr (zJ _))
     (λx c e z=>by
      obtain ⟨v,ob,nP,_⟩:=I2.cell x c (wl e);exact absurd (Heap.lt_size nP) (by rw [z];exact yM _)) (λp hp=>nomatch hp)
    have Vw:=It.dY (pJ:=[(s2.heap.objs.size,({ cls:=.type "list", data:=.seq (aC++[y]).toArray (k + 1) }:Obj))]) λp hp=>by
     have e:p=_:=zE.mp hp;subst e;exact ⟨by simpa using q,nD,MF,Tp,λv z=>nomatch z⟩
    refine ⟨m',Js,i + 1,oG,acc++[yv],aC++[y],_,eX,Vw,T.keep _ _ _ sb λb hb o e=>(Heap.get?_update_other gj.heap _ (yf (fl b hb))).trans e,fb,uG.append (.cons S9 .nil),w'⟩
 exact codeAny_compStart_list loop (T.self _ 0 s4 _ _ Kq loop)
end
open AutoSeq1 (wpAny_loadPart')
section
variable {prog:Program}{w:World}{A:Around}{E:Value->Shared->Prop}{s:Shared}
theorem QB {it t:Addr}{i:Nat}{items}{x:Value}{Q:Value->Shared->Prop}(hit:s.heap.IsTupleIter it t i)(ht:s.heap.IsTuple t items)(hx:items[i]?=some x)
  (hQ:∀ h',h'.IsTupleIter it t (i + 1)->Heap.SameBut it s.heap h'->Q x { s with heap:=h' }):wpAny (model prog w) A (Builtin.SmallTypes.nextOf (.ref it)) Q E s:=by
 have ty:=hit.typeIs (s:=s);obtain ⟨o,ho,hc,hd⟩:=hit;obtain ⟨ot,Z6,_,n,hdt⟩:=ht;have new:=hQ _ ⟨_,Heap.get?_update_self (Obj.mapFields (·.set! 1 (rawInt (i + 1)))) ho (Obj.isFreed_of_fields (Obj.data_mapFields hd _)),(Obj.cls_mapFields ..).trans hc,by rw [Obj.data_mapFields hd];simp [rawInt]⟩ (Heap.SameBut.update ..);unfold Builtin.SmallTypes.nextOf;refine wpAny_bind (wpAny_callSpecial?_slot ty F.slot_tuple_iterator_next (wpAny_call_entry F.slot_tuple_iterator_next ty F.entry_tuple_iterator_next ?_ (F.args_tuple_iterator_next_1 _)));unfold Builtin.«tuple_iterator.__next__»;wp_walk using wpAny_field ho hd (x:=.ref t) rfl,wpAny_field ho hd (x:=.int i 0) rfl,wpAny_seqItems Z6 hdt;simp only [yA,hx];wp_walk using wpAny_setField ho hd (by simp);exact ⟨x,rfl,wpAny_pure new⟩
theorem NR {it t:Addr}{i:Nat}{items}{Q:Value->Shared->Prop}(hh:A.handled=none)(hit:s.heap.IsTupleIter it t i)(ht:s.heap.IsTuple t items)(hx:items[i]?=none)
  (hE:∀ h' e,Heap.ExtBut it s.heap h'->(∃ o,h'.get? e=some o/\o.cls=.type "StopIteration")->E (.ref e) { s with heap:=h' }):wpAny (model prog w) A (Builtin.SmallTypes.nextOf (.ref it)) Q E s:=by
 have ty:=hit.typeIs (s:=s);obtain ⟨o,ho,hc,hd⟩:=hit;obtain ⟨ot,Z6,_,n,hdt⟩:=ht;have hh1:A.in1.handled=none:=hh;unfold Builtin.SmallTypes.nextOf;refine wpAny_bind (wpAny_callSpecial?_slot ty F.slot_tuple_iterator_next (wpAny_call_entry F.slot_tuple_iterator_next ty F.entry_tuple_iterator_next ?_ (F.args_tuple_iterator_next_1 _)));unfold Builtin.«tuple_iterator.__next__»;wp_walk using wpAny_field ho hd (x:=.ref t) rfl,wpAny_field ho hd (x:=.int i 0) rfl,wpAny_seqItems Z6 hdt;simp only [yA,hx];wp_walk using wpAny_setField ho hd (by simp);simp only [raiseNew];refine wpAny_bind (wpAny_handled ?_);rw [hh1];exact wpAny_bind (wpAny_pure (wpAny_throw (hE _ _ (((Heap.SameBut.update ..).extBut.push _).push _) ⟨_,Heap.get?_push_size _ rfl,rfl⟩)))
end
theorem Ma {prog:Program}{w:World}{A:Around}(hh:A.handled=none)(it t:Addr)(Wr:t≠it)(items:Array Value) :
  Draws prog w A it [it,t] items.size (λi v=>items[i]?=some v) (λi h=>h.IsTupleIter it t i/\h.IsTuple t items) where
 live:=λ_ _ st=>let ⟨⟨o,ho,_⟩,_⟩:=st;⟨o,ho⟩
 frame:=λ_ _ _ st hk=>let ⟨⟨o,ho,r⟩,o',tK,r'⟩:=st;⟨⟨o,hk it (by simp) o ho,r⟩,o',hk t (by simp) o' tK,r'⟩
 item:=λi s Q E hi st hQ=>QB st.1 st.2 (Array.getElem?_eq_getElem hi) λh' a b=>hQ _ h' s.toks (Array.getElem?_eq_getElem hi) ⟨a,st.2.extBut b.extBut Wr⟩ b
 done:=λs Q E st hE=>NR hh st.1 st.2 (Array.getElem?_eq_none (zJ _)) hE
section
variable {prog:Program}{w:World}{A:Around}{E:Value->Shared->Prop}{s:Shared}
end
def fF (H:Hp):V->Option String
 | .bF=>some "NoneType"
 | .bl _=>some "bool"
 | .int _=>some "int"
 | .str _=>some "str"
 | .ref a=>match H a with
  | some (.lst _)=>some "list"
  | some (.qz _ (.lst _))=>some "list"
  | some (.tup _)=>some "tuple"
  | some (.dK _)=>some "dict"
  | _=>none
 | _=>none
theorem PJ {K:PySem.W.Frag}{H:Hp}{x:V}{t:String}(h:fF H x=some t):jd K H x (.type t):=by
 cases x with
 | bF=>cases h;exact .bF
 | bl b=>cases h;exact .bl b
 | int i=>cases h;exact .int i
 | str x=>cases h;exact .str x
 | ref a=>
  unfold fF at h;dsimp only at h;split at h
  ·rename_i e;cases h;exact .lst e
  ·rename_i e;cases h;exact .qz e
  ·rename_i e;cases h;exact .tup e
  ·rename_i e;cases h;exact .dK e
  ·cases h
 | _=>cases h
theorem gY {H:Hp}{x:V}{t:String}(h:fF H x=some t):t = "NoneType" \/ t = "bool" \/ t = "int" \/ t = "str" \/ t = "list" \/ t = "tuple" \/ t = "dict" := by
 cases x with
 | ref a=>
  unfold fF at h;dsimp only at h;split at h <;> cases h <;> simp
 | _=>cases h <;> simp
def p9 (t T:String):Bool:=t == T || (t == "bool" && T == "int")
theorem QO {K:PySem.W.Frag}{t T:String}(h:t = "NoneType" \/ t = "bool" \/ t = "int" \/ t = "str" \/ t = "list" \/ t = "tuple" \/ t = "dict")(hT:T = "int" \/ T = "bool" \/ T = "list" \/ T = "tuple"):PySem.W.kitOne K (.type t) (.type T)=some (p9 t T):=by rcases h with rfl | rfl | rfl | rfl | rfl | rfl | rfl <;> rcases hT with rfl | rfl | rfl | rfl <;> first | rfl | decide +kernel
section
variable {X:Cx}
theorem wL:cD X (.builtin "isinstance") (λxs H Q=>∃ x t T,xs=[x,.ty T]/\fF H x=some t/\(T = "int" \/ T = "bool" \/ T = "list" \/ T = "tuple")/\Q (.bl (p9 t T)) H):=by intro ai s σ H xs us Q I r h;obtain ⟨x,t,T,rfl,ht,hT,q⟩:=h;obtain ⟨u,w',rfl,r1,r2⟩:=vals2 r;cases r2;exact Jm I r1 (PJ ht) (QO (gY ht) hT) λtk=>⟨.bl _,H,I.tok tk,rfl,q⟩
theorem cS:gE X (binaryOp .FloorDiv) (rI (λ_ j=>0 < j/\j < 2 ^ 200) λi j=>.int (i / j)):=VY λi j _ _ _ _ _ hc q=>by
 have e:i.fdiv j=i / j:=Int.fdiv_eq_ediv_of_nonneg _ (by omega);rw [<-e] at q;refine floordiv_int (by omega) q (.inl (PyProof.noPylong_of_log2 ?_));have h0:j.natAbs≠0:=by omega
 have h1:j.natAbs < 2 ^ 200:=by omega
 have:=(Nat.log2_lt h0).mpr h1;omega
theorem iz (hu:X.A.units + 64 < cLine):gE X (compareOp .NotEq) (λx y H Q=>∃ a b xs,x=.ref a/\y=.ref b/\aB X.K H a xs/\aB X.K H b []/\Q (.bl (!xs.isEmpty)) H):=by
 intro ai s σ H x y v u Q I rx ry h;obtain ⟨a,b,xs,rfl,rfl,ha,hb,q⟩:=h;cases rx;cases ry;obtain ⟨aC,r,p,_⟩:=I.list ha;obtain ⟨bR,r2,p2,_⟩:=I.list hb;cases r2;cases r with
 | nil=>exact SeqAt.RcNeAt.lists (e:=λ_=>true) p.isList p2.isList rfl (by omega) (λj h1=>absurd h1 (yg _)) _ _ _ _ ⟨.bl _,H,I,rfl,q⟩
 | cons r1 rr=>exact SeqAt.RcNeAt.lists_lengths p.isList p2.isList (by simp) (by omega) _ _ _ _ ⟨.bl _,H,I,rfl,q⟩
theorem I0 (hu:X.A.units + 64 < cLine):gE X (compareOp .Eq) (λx y H Q=>∃ a b xs,x=.ref a/\y=.ref b/\aX X.K H a xs/\aX X.K H b []/\Q (.bl xs.isEmpty) H):=by
 intro ai s σ H x y v u Q I rx ry h;obtain ⟨a,b,xs,rfl,rfl,ha,hb,q⟩:=h;cases rx;cases ry;obtain ⟨aC,r,p,_⟩:=I.tuple ha;obtain ⟨bR,r2,p2,_⟩:=I.tuple hb;cases r2;have q':Q (.bl ((List.range (min aC.toArray.size ([]:List Value).toArray.size)).all (λ_=>true) && aC.toArray.size == ([]:List Value).toArray.size)) H:=by
  cases r with
  | nil=>simpa using q
  | cons r1 rr=>simpa using q
 exact SeqAt.RcAt.tuples (e:=λ_=>true) p p2 (by omega) (λj h1 h2=>absurd h2 (yg _)) _ _ _ _ ⟨.bl _,H,I,rfl,q'⟩
variable {K:PySem.W.Frag}
theorem wE {es:List Expr}{k:Nat}{t:Pg}{n:Nat}{pos:Pos}(hK:X.K=K)(hc:X.calm=true)(h:Vq X es t)
  (hn:(assignEach es X.env).length=n:=by rfl) (lT:(assignEach es X.env).findIdx? (·.1)=none:=by rfl):PG X (.Tuple es k pos) (LQ K n t):=by subst hK;exact Qt hc h hn lT
theorem wZ {tg l:Expr}{tl:TE}(hK:X.K=K)(hl:PE X l tl):PI X tg l (O1 K tl):=by subst hK;exact NK hl
theorem iw {tg l:Expr}{tl:TE}(hK:X.K=K)(hl:PE X l tl):PI X tg l (Ut K tl):=by subst hK;exact Qs hl
theorem xh (hK:X.K=K):Vv X (KO K):=by subst hK;exact N4
theorem xo (hK:X.K=K):Vv X (KN K):=by subst hK;exact QX
theorem cQ (hK:X.K=K):Vn X (S8 K):=by subst hK;exact Nq
theorem jA (hK:X.K=K):Vn X (S7 K):=by subst hK;exact Qc
theorem dI (hK:X.K=K):gE X (compareOp .In) (YA K false):=by subst hK;exact IZ
theorem xg (hK:X.K=K):cD X (.builtin "len") (λxs H Q=>∃ p ys,xs=[.ref p]/\(aB K H p ys\/aX K H p ys)/\Q (.int ys.length) H):=by subst hK;exact oi
theorem qG (hK:X.K=K):cD X (.type "list") (λxs H Q=>∃ p ys,xs=[.ref p]/\(aB K H p ys\/aX K H p ys)/\∀ l,H l=none->Q (.ref l) (upd H l (.lst ys))):=by subst hK;exact oh
end
theorem kN {X:Cx}{K:PySem.W.Frag}(hK:X.K=K):Vr X (λo i H Q=>∃ p xs v,∃ k:Nat,o=.ref p/\i=.int k/\aB K H p xs/\xs[k]?=some v/\Q v H):=by subst hK;intro ai s σ H o i ov iv Q I ro ri h;obtain ⟨p,xs,v,k,rfl,rfl,hq,hv,q⟩:=h;cases ro;obtain ⟨t,rfl⟩:=ri;obtain ⟨aC,r,pl,hz⟩:=I.list hq;obtain ⟨w,ew,SW⟩:=r.get hv;have hk:k < xs.length:=(zQ.mp hv).1;have hn:=kD;exact wpAny_getItem_list pl.isList (by omega) (by omega) (by simpa using ew) ⟨v,H,I,SW,q⟩
end L2
namespace aY
open PySem PySem.W PyProof.Rows
def fL {α:Type}(n:Nat)(c:Nat->Nat->Bool):KasT α->(α->Prop)->Prop
 | .ret a,P=>P a
 | .ask i j k,P=>i < n/\j < n/\fL n c (k (c i j)) P
theorem fL.bind {α β:Type}{n:Nat}{c:Nat->Nat->Bool}{f:α->KasT β}{P:β->Prop}:∀ (t:KasT α),fL n c t (λa=>fL n c (f a) P)->fL n c (t.bind f) P
 | .ret a,h=>h
 | .ask i j k,h=>⟨h.1,h.2.1,fL.bind (k (c i j)) h.2.2⟩
theorem fL.mono {α:Type}{n:Nat}{c:Nat->Nat->Bool}{P P':α->Prop}(hp:∀ a,P a->P' a):∀ (t:KasT α),fL n c t P->fL n c t P'
 | .ret a,h=>hp a h
 | .ask i j k,h=>⟨h.1,h.2.1,fL.mono hp (k (c i j)) h.2.2⟩
theorem fL.wp {α:Type}{n:Nat}{c:Nat->Nat->Bool}{P:α->Prop}{Q:α->Shared->Prop}{cmp:Nat->Nat->(Bool->Shared->Prop)->Shared->Prop}{s:Shared}
  (hc:∀ i j C,i < n->j < n->C (c i j) s->cmp i j C s) (hq:∀ a,P a->Q a s):∀ (t:KasT α),fL n c t P->t.kasWp cmp Q s
 | .ret a,h=>hq a h
 | .ask i j k,h=>hc i j _ h.1 h.2.1 (fL.wp hc hq (k (c i j)) h.2.2)
section
variable {n:Nat}{f:Nat->Int}
def at' (p:Array Nat)(i:Nat):Nat:=(p[i]?).getD 0
theorem getD_at (p:Array Nat)(i:Nat):p.getD i 0=at' p i:=by unfold at';simp
def g (f:Nat->Int)(p:Array Nat)(i:Nat):Int:=f (at' p i)
def Pm (n:Nat)(p:Array Nat):Prop:=p.Perm (List.toArray (List.range n))
theorem Pm.size {p:Array Nat}(h:Pm n p):p.size=n:=by rw [Array.Perm.size_eq h];simp
theorem Pm.lt {p:Array Nat}(h:Pm n p){i:Nat}(hi:i < n):at' p i < n:=by
 have hs:=h.size;have e:at' p i=p[i]'(by omega):=by unfold at';simp [hs,hi]
 have hm:p[i]'(by omega)∈p:=Array.getElem_mem _;have Js:=(Array.Perm.mem_iff h).mp hm;rw [e];simpa using Js
theorem Pm.rev {p:Array Nat}(h:Pm n p)(i j:Nat):Pm n (kas_rev p i j):=(mirror_perm p i j _).trans h
theorem Pm.bub {p:Array Nat}(h:Pm n p)(k d:Nat):Pm n (bubble p k d):=(bubble_perm p k d).trans h
theorem vf {p:Array Nat}{i j:Nat}(hj:j<=p.size)(k:Nat):g f (kas_rev p i j) k=if i<=k/\k < j then g f p (i + j - 1 - k) else g f p k:=by unfold g at' kas_rev;rw [getElem?_mirror_all hj k];split <;> rfl
theorem Pb {p:Array Nat}{src d:Nat}(hs:src < p.size)(hd:d<=src)(k:Nat):g f (bubble p src d) k=if k=src - d then g f p src else if src - d < k/\k<=src then g f p (k - 1) else g f p k:=by
 unfold g at';rw [getElem?_bubble hs d hd k];split
 ·rfl
 ·split <;> rfl
def Up (f:Nat->Int)(p:Array Nat)(k:Nat):Prop:=∀ i j,i<=j->j < k->g f p i<=g f p j
def Dn (f:Nat->Int)(p:Array Nat)(k:Nat):Prop:=∀ i j,i<=j->j < k->g f p j<=g f p i
def cf (f:Nat->Int)(i j:Nat):Bool:=decide (f i < f j)
theorem tZ {p:Array Nat}(hp:Pm n p):∀ (q m:Nat),1<=m->m + q<=n->Up f p m->fL n (cf f) (kas_asc p q m) (λm'=>m<=m'/\m'<=m + q/\Up f p m'/\(m' < m + q->g f p m' < g f p (m' - 1)))
 | 0,m,_,_,hu=>⟨zJ _,zJ _,hu,λh=>absurd h (yM _)⟩
 | q + 1,m,h1,h2,hu=>by
  unfold kas_asc;refine ⟨by rw [getD_at];exact hp.lt (by omega),by rw [getD_at];exact hp.lt (by omega),?_⟩;rw [getD_at,getD_at];by_cases hc:g f p m < g f p (m - 1)
  ·have e:cf f (at' p m) (at' p (m - 1))=true:=decide_eq_true hc;rw [e];dsimp only;rw [if_pos rfl];exact ⟨zJ _,by omega,hu,λ_=>hc⟩
  ·have e:cf f (at' p m) (at' p (m - 1))=false:=decide_eq_false hc;rw [e];dsimp only;rw [if_neg za];refine fL.mono (λm' h=>⟨by omega,by omega,h.2.2.1,λz=>h.2.2.2 (by omega)⟩) _ (tZ hp q (m + 1) (by omega) (by omega) λi j tL hj=>?_);by_cases Rf:j < m
   ·exact hu i j tL Rf
   ·have ej:j=m:=by omega
    subst ej;by_cases hi:i=j
    ·subst hi;omega
    ·have:=hu i (j - 1) (by omega) (by omega);omega
def WR (f:Nat->Int)(p:Array Nat)(m q:Nat):Prop:=∀ i,m<=i + (q + 1)->i < m->g f p i=g f p (m - 1)
theorem jZ {p:Array Nat}(hp:Pm n p){m q:Nat}(hm:m<=n)(hq:q + 1<=m)(hb:WR f p m q)(k:Nat):g f (kas_rev p (m - (q + 1)) m) k=g f p k:=by
 rw [vf (by rw [hp.size];exact hm)];split
 ·rename_i h;rw [hb _ (by omega) (by omega),hb k (by omega) (by omega)]
 ·rfl
theorem nY:∀ (t:Nat) (p:Array Nat) (m q:Nat),Pm n p->1<=m->m + t<=n->q + 1<=m->Dn f p m->WR f p m q ->
  fL n (cf f) (kas_desc t p m q) (λr=>Pm n r.1/\m<=r.2.1/\r.2.1<=n/\r.2.2 + 1<=r.2.1/\Dn f r.1 r.2.1/\WR f r.1 r.2.1 r.2.2)
 | 0,p,m,q,hp,h1,h2,h3,hd,hb=>⟨hp,zJ _,by simpa using h2,h3,hd,hb⟩
 | t + 1,p,m,q,hp,h1,h2,h3,hd,hb=>by
  unfold kas_desc;refine ⟨by rw [getD_at];exact hp.lt (by omega),by rw [getD_at];exact hp.lt (by omega),?_⟩;rw [getD_at,getD_at];by_cases hc:g f p m < g f p (m - 1)
  ·have e:cf f (at' p m) (at' p (m - 1))=true:=decide_eq_true hc;rw [e];dsimp only;rw [if_pos rfl];have step:∀ p':Array Nat,Pm n p'->(∀ k,g f p' k=g f p k)->fL n (cf f) (kas_desc t p' (m + 1) 0) (λr=>Pm n r.1/\m<=r.2.1/\r.2.1<=n/\r.2.2 + 1<=r.2.1/\Dn f r.1 r.2.1/\WR f r.1 r.2.1 r.2.2):=λp' Wo hg=>by
    refine fL.mono (λr h=>⟨h.1,by omega,h.2.2⟩) _ (nY t p' (m + 1) 0 Wo (by omega) (by omega) (by omega) (λi j tL hj=>?_) λi hi gB=>?_)
    ·rw [hg,hg];by_cases Rf:j < m
     ·exact hd i j tL Rf
     ·have ej:j=m:=by omega
      subst ej;by_cases hi:i=j
      ·subst hi;omega
      ·have:=hd i (j - 1) (by omega) (by omega);omega
    ·have:i=m + 1 - 1:=by omega
     rw [this]
   split
   ·exact step _ (hp.rev _ _) (jZ hp (by omega) h3 hb)
   ·exact step _ hp λ_=>rfl
  ·have e:cf f (at' p m) (at' p (m - 1))=false:=decide_eq_false hc;rw [e];dsimp only;rw [if_neg za];refine ⟨hp.lt (by omega),hp.lt (by omega),?_⟩;by_cases hc2:g f p (m - 1) < g f p m
   ·have e2:cf f (at' p (m - 1)) (at' p m)=true:=decide_eq_true hc2;rw [e2];dsimp only;rw [if_pos rfl];exact ⟨hp,zJ _,by show m<=n;omega,h3,hd,hb⟩
   ·have e2:cf f (at' p (m - 1)) (at' p m)=false:=decide_eq_false hc2;rw [e2];dsimp only;rw [if_neg za];have eq:g f p m=g f p (m - 1):=by omega
    refine fL.mono (λr h=>⟨h.1,by omega,h.2.2⟩) _ (nY t p (m + 1) (q + 1) hp (by omega) (by omega) (by omega) (λi j tL hj=>?_) λi hi gB=>?_)
    ·by_cases Rf:j < m
     ·exact hd i j tL Rf
     ·have ej:j=m:=by omega
      subst ej;by_cases hi:i=j
      ·subst hi;omega
      ·have:=hd i (j - 1) (by omega) (by omega);omega
    ·rw [show m + 1 - 1=m from rfl];by_cases kL:i=m
     ·rw [kL]
     ·rw [hb i (by omega) (by omega),eq]
theorem oO {p:Array Nat}{m:Nat}(hp:Pm n p)(h1:1<=m)(hm:m<=n)(hd:Dn f p m):fL n (cf f) (kas_tail3 m n p) (λr=>Pm n r.2/\r.1<=n/\1<=r.1/\Up f r.2 r.1):=by unfold kas_tail3;have Wo:=hp.rev 0 m;refine fL.bind _ (fL.mono (λm' h=>⟨Wo,by omega,by omega,h.2.2.1⟩) _ (tZ Wo (n - m) m h1 (by omega) λi j tL hj=>?_));rw [vf (by rw [hp.size];exact hm),vf (by rw [hp.size];exact hm),if_pos ⟨by omega,by omega⟩,if_pos ⟨by omega,by omega⟩];exact hd _ _ (by omega) (by omega)
theorem jj {p:Array Nat}{m:Nat}(hp:Pm n p)(h1:1<=m)(hm:m < n)(hd:Dn f p (m + 1)):fL n (cf f) (kas_descPart m n p) (λr=>Pm n r.2/\r.1<=n/\1<=r.1/\Up f r.2 r.1):=by
 unfold kas_descPart;refine fL.bind _ (fL.mono (λr h=>?_) _ (nY (n - (m + 1)) p (m + 1) 0 hp (by omega) (by omega) (by omega) hd λi hi gB=>by rw [show i=m + 1 - 1 by omega]));obtain ⟨a1,a2,a3,a4,a5,a6⟩:=h;split
 ·exact oO (a1.rev _ _) (by omega) a3 λi j tL hj=>by
   rw [jZ a1 a3 a4 a6,jZ a1 a3 a4 a6];exact a5 i j tL hj
 ·exact oO a1 (by omega) a3 a5
theorem Mh {p:Array Nat}(hn:1<=n)(hp:Pm n p):fL n (cf f) (kas_count n p) (λr=>Pm n r.2/\r.1<=n/\1<=r.1/\Up f r.2 r.1):=by
 unfold kas_count;refine fL.bind _ (fL.mono (λm h=>?_) _ (tZ hp (n - 1) 1 (zJ _) (by omega) λi j tL hj=>by rw [show i=j by omega];omega));obtain ⟨a1,a2,a3,a4⟩:=h;split
 ·exact ⟨hp,by omega,a1,a3⟩
 ·rename_i Wr;have gc:m < n:=by
   have:¬ m=n:=by simpa using Wr
   omega
  have a4':=a4 (by omega);split
  ·rename_i hm1;refine ⟨by rw [getD_at];exact hp.lt (by omega),by rw [getD_at];exact hp.lt (by omega),?_⟩;rw [getD_at,getD_at];by_cases hc:g f p 0 < g f p (m - 1)
   ·have e:cf f (at' p 0) (at' p (m - 1))=true:=decide_eq_true hc;rw [e];dsimp only;rw [if_pos rfl];exact ⟨hp,by omega,a1,a3⟩
   ·have e:cf f (at' p 0) (at' p (m - 1))=false:=decide_eq_false hc;rw [e];dsimp only;rw [if_neg za];have all:∀ k,k < m->g f p k=g f p 0:=λk hk=>by
     have:=a3 0 k (by omega) hk;have:=a3 k (m - 1) (by omega) (by omega);omega
    have gr:∀ k,g f (kas_rev p 0 m) k=g f p k:=λk=>by
     rw [vf (by rw [hp.size];omega)];split
     ·rw [all _ (by omega),all k (by omega)]
     ·rfl
    refine jj (hp.rev _ _) a1 gc λi j tL hj=>?_;rw [gr,gr];by_cases Rf:j < m
    ·rw [all i (by omega),all j Rf];omega
    ·have ej:j=m:=by omega
     subst ej;by_cases hi:i=j
     ·subst hi;omega
     ·have:=all i (by omega);have:=all (j - 1) (by omega);omega
  ·refine jj hp a1 gc λi j tL hj=>?_;have em:m=1:=by omega
   subst em;by_cases hi:i=j
   ·subst hi;omega
   ·have e1:i=0:=by omega
    have e2:j=1:=by omega
    subst e1 e2;have:g f p 1 < g f p 0:=a4';omega
theorem kg {p:Array Nat}{k:Nat}(hp:Pm n p)(hk:k < n)(hu:Up f p k):∀ (t l r:Nat),l<=r->r<=k->r<=l + t->(∀ i,i < l->g f p i<=g f p k)->(∀ i,r<=i->i < k->g f p k < g f p i) ->
  fL n (cf f) (kas_place p k t l r) (λl'=>l'<=k/\(∀ i,i < l'->g f p i<=g f p k)/\∀ i,l'<=i->i < k->g f p k < g f p i)
 | 0,l,r,h1,h2,h3,ha,hb=>⟨by omega,ha,λi hi gB=>hb i (by omega) gB⟩
 | t + 1,l,r,h1,h2,h3,ha,hb=>by
  unfold kas_place;split
  ·exact ⟨by omega,ha,λi hi gB=>hb i (by omega) gB⟩
  ·rename_i nQ;refine ⟨by rw [getD_at];exact hp.lt hk,by rw [getD_at];exact hp.lt (by omega),?_⟩;rw [getD_at,getD_at];by_cases hc:g f p k < g f p ((l + r) / 2)
   ·have e:cf f (at' p k) (at' p ((l + r) / 2))=true:=decide_eq_true hc;rw [e];dsimp only;rw [if_pos rfl];refine kg hp hk hu t l ((l + r) / 2) (by omega) (by omega) (by omega) ha λi hi gB=>?_;have:=hu ((l + r) / 2) i (by omega) gB;omega
   ·have e:cf f (at' p k) (at' p ((l + r) / 2))=false:=decide_eq_false hc;rw [e];dsimp only;rw [if_neg za];refine kg hp hk hu t ((l + r) / 2 + 1) r (by omega) (by omega) (by omega) (λi hi=>?_) hb;have:=hu i ((l + r) / 2) (by omega) (by omega);omega
theorem Mn:∀ (t:Nat) (p:Array Nat) (k:Nat),Pm n p->k + t=n->Up f p k->fL n (cf f) (kas_bin t p k) (λp'=>Pm n p'/\Up f p' n)
 | 0,p,k,hp,hk,hu=>⟨hp,by rw [<-hk];exact hu⟩
 | t + 1,p,k,hp,hk,hu=>by
  unfold kas_bin;refine fL.bind _ (fL.mono (λl h=>?_) _ (kg hp (by omega) hu k 0 k (by omega) (by omega) (by omega) (λi hi=>absurd hi (yg _)) λi hi gB=>absurd gB (by omega)));obtain ⟨a1,a2,a3⟩:=h;refine Mn t _ (k + 1) (hp.bub _ _) (by omega) λi j tL hj=>?_;have hs:k < p.size:=by rw [hp.size];omega
  rw [Pb hs (by omega),Pb hs (by omega)];have el:k - (k - l)=l:=by omega
  rw [el];by_cases hil:i=l
  ·rw [if_pos hil];by_cases UN:j=l
   ·rw [if_pos UN];omega
   ·rw [if_neg UN,if_pos ⟨by omega,by omega⟩];have:=a3 (j - 1) (by omega) (by omega);omega
  ·rw [if_neg hil];by_cases kL:l < i/\i<=k
   ·rw [if_pos kL];rw [if_neg (by omega),if_pos ⟨by omega,by omega⟩];exact hu _ _ (by omega) (by omega)
   ·rw [if_neg kL];have hi3:i < l:=by omega
    by_cases UN:j=l
    ·rw [if_pos UN];exact a2 i hi3
    ·rw [if_neg UN];by_cases hj2:l < j/\j<=k
     ·rw [if_pos hj2];exact hu _ _ (by omega) (by omega)
     ·rw [if_neg hj2];exact hu _ _ tL (by omega)
theorem Np (hn:1<=n):fL n (cf f) (kas_sort n) (λp=>Pm n p/\Up f p n):=by
 unfold kas_sort;refine fL.bind _ (fL.mono (λr h=>?_) _ (Mh hn (show Pm n (List.toArray (List.range n)) from Array.Perm.refl _)));obtain ⟨a1,a2,a3,a4⟩:=h;split
 ·have e:max r.1 1=r.1:=by omega
  rw [e];exact Mn _ _ _ a1 (by omega) a4
 ·have e:r.1=n:=by omega
  exact ⟨a1,by rw [<-e];exact a4⟩
end
end aY
namespace aY
def lx:List Int->List Int->Bool
 | [],[]=>false
 | [],_::_=>true
 | _::_,[]=>false
 | x::xs,y::ys=>if x=y then lx xs ys else decide (x < y)
theorem Li:∀ r:List Int,lx r r=false
 | []=>rfl
 | x::xs=>by unfold lx;rw [if_pos rfl];exact Li xs
theorem Lf:∀ {a b c:List Int},lx a b=true->lx b c=true->lx a c=true
 | [],[],_,h,_=>by cases h
 | [],_::_,[],_,h=>by cases h
 | [],_::_,_::_,_,_=>rfl
 | _::_,[],_,h,_=>by cases h
 | _::_,_::_,[],_,h=>by cases h
 | x::xs,y::ys,z::zs,h,h'=>by
  unfold lx at h h' ⊢;split at h
  ·split at h'
   ·rename_i e1 e2;rw [if_pos (e1.trans e2)];exact Lf h h'
   ·rename_i e1 e2;simp only [decide_eq_true_eq] at h';rw [if_neg (by omega)];simp only [decide_eq_true_eq];omega
  ·simp only [decide_eq_true_eq] at h;split at h'
   ·rename_i e1 e2;rw [if_neg (by omega)];simp only [decide_eq_true_eq];omega
   ·simp only [decide_eq_true_eq] at h';rw [if_neg (by omega)];simp only [decide_eq_true_eq];omega
theorem Lg:∀ {a b:List Int},lx a b=false->lx b a=false->a=b
 | [],[],_,_=>rfl
 | [],_::_,h,_=>by cases h
 | _::_,[],_,h=>by cases h
 | x::xs,y::ys,h,h'=>by
  unfold lx at h h';split at h
  ·rename_i e;subst e;rw [if_pos rfl] at h';rw [Lg h h']
  ·rename_i e;rw [if_neg λz=>e z.symm] at h';simp only [decide_eq_false_iff_not] at h h';omega
def rk (rs:List (List Int))(r:List Int):Int:=((rs.countP λx=>lx x r:Nat):Int)
theorem mO {α:Type}{p q:α->Bool}{a:α}:∀ {l:List α},(∀ x,p x=true->q x=true)->a∈l->p a=false->q a=true->l.countP p < l.countP q
 | [],_,h,_,_=>by cases h
 | x::l,Z4,h,h1,h2=>by
  have hm:l.countP p<=l.countP q:=List.countP_mono_left λx _=>Z4 x;rcases zG.mp h with rfl | h
  ·rw [List.countP_cons_of_neg (by rw [h1];exact za),List.countP_cons_of_pos h2];omega
  ·have:=mO Z4 h h1 h2;rw [List.countP_cons,List.countP_cons];cases e:p x with
   | true=>rw [Z4 x e];simp;omega
   | false=>cases e2:q x <;> simp <;> omega
theorem OQ {rs:List (List Int)}{a b:List Int}(ha:a∈rs):decide (rk rs a < rk rs b)=lx a b:=by
 unfold rk;cases h:lx a b with
 | true=>
  have:=mO (p:=λx=>lx x a) (q:=λx=>lx x b) (λx hx=>Lf hx h) ha (Li a) h;simp only [decide_eq_true_eq];omega
 | false=>
  have hm:rs.countP (λx=>lx x b)<=rs.countP (λx=>lx x a):=List.countP_mono_left λx _ hx=>by
   cases h':lx b a with
   | true=>exact Lf hx h'
   | false=>rw [Lg h h'];exact hx
  simp only [decide_eq_false_iff_not];omega
end aY
namespace L2
open PySem PySem.Spec PyProof.Rows PySem.W aY
theorem bA.at {P:Program}{w:World}{H:Hp}{h:Heap}{a:Addr}{o:HO}(x:bA P w H h a o):∃ ob,h.get? a=some ob:=by
 cases o with
 | lst xs=>obtain ⟨_,_,_,_,e⟩:=x;exact ⟨_,e⟩
 | tup xs=>obtain ⟨_,_,_,ob,e,_⟩:=x;exact ⟨_,e⟩
 | dK iF=>obtain ⟨_,_,_,_,o,_,_,e,_⟩:=x;exact ⟨_,e⟩
 | dT iF=>obtain ⟨_,_,_,_,o,_,_,e,_⟩:=x;exact ⟨_,e⟩
 | set S n=>obtain ⟨o,_,_,_,e,_⟩:=x;exact ⟨_,e⟩
 | ins C dx fs=>obtain ⟨_,_,_,e,_⟩:=x;exact ⟨_,e⟩
 | own y=>obtain ⟨_,e⟩:=x;exact ⟨_,e⟩
 | xd fs=>obtain ⟨_,⟨_,_,_,e,_⟩,_⟩:=x;exact ⟨_,e⟩
 | VR lo hi=>obtain ⟨_,_,_,e⟩:=x;exact ⟨_,e⟩
 | qz ob u=>obtain ⟨e,_⟩:=x;exact ⟨_,e⟩
 | OH ps=>exact ⟨_,(show h.get? a=some _ from x)⟩
 | met f y=>exact ⟨_,(show h.get? a=some _ from x)⟩
 | ext φ=>obtain ⟨_,⟨_,e⟩,_⟩:=x;exact ⟨_,e⟩
section
variable {X:Cx}{ai:List (Addr×Obj)}{σ:St}{H:Hp}{s:Shared}
theorem Inv.KG {m:Str->Option Value}{h':Heap}{D:Addr}{aC:List Value}{c:Nat}{xs:List V}(I:Inv X ai σ H s)(F0:Fr X.base X.env.locals s.heap m)(F:Fr X.base X.env.locals h' m)
  (N:News X.base X.env.locals h' ((D,listOf aC.toArray c)::gh X.base s.heap X.env.locals)) (lt:∀ q∈gh X.base s.heap X.env.locals,q.1 < D) (hv:Vals xs aC) (hz:xs.length<=sizeLine) :
  Inv X ai σ (upd H D (.lst xs)) { s with heap:=h' }/\H D=none:=by
 obtain ⟨eD,nL,nb⟩:=N (D,listOf aC.toArray c) (.head _);have Te:s.heap.get? D=none:=by
  cases q:s.heap.get? D with
  | none=>rfl
  | some o=>exact absurd (lt (D,o) (dZ nL nb q)) (yM _)
 have hD:H D=none:=by
  cases q:H D with
  | none=>rfl
  | some u=>
   obtain ⟨ob,e⟩:=(I.bh D u q).at;rw [Te] at e;cases e
 have keep:∀ b o,b≠X.env.locals->s.heap.get? b=some o->h'.get? b=some o:=λb o hb e=>by
  cases q:X.base.get? b with
  | some u=>
   have:=I.bk b u q;rw [e] at this;cases this;exact F.keep b _ q
  | none=>exact (N (b,o) (.tail _ (dZ hb q e))).1
 have MF:∀ b o,s.heap.get? b=some o->b≠D:=λb o e z=>by rw [z,Te] at e;cases e
 have neT:∀ b u,H b=some u->b≠D:=λb u e z=>by rw [z,hD] at e;cases e
 refine ⟨I.step (g':=s.gens) (t':=s.toks) (d':=s.drawn) (ch:=[]) (λ_ z=>nomatch z) (λb o hb _ _ e _=>keep b o hb e) (λb o hb _ _ e _=>⟨o.slots,keep b o hb e⟩) (λb o _ e n=>by rw [xj (MF b o e)];exact n) (λb o _ e=>?_)
  (λb ys e=>by rw [xj (neT b _ e)];exact e) (λb o u e=>by rw [xj (neT b _ e)];exact e) (λb ps e=>⟨#[],by rw [xj (neT b _ e),e,Array.append_empty]⟩) (λm' hm=>?_) (λb u e=>?_) I.bare,hD⟩
 ·by_cases hb:b=X.env.locals
  ·obtain ⟨o',_,_,q,_⟩:=F.ns;exact ⟨o',by rw [hb];exact q⟩
  ·exact ⟨o,keep b o hb e⟩
 ·obtain ⟨o1,Pc,ep1,e1,d1,k1,f1⟩:=hm;obtain ⟨o2,es2,ep2,e2,d2,k2,f2⟩:=F0.ns;rw [e1] at e2;cases e2;rw [d1] at d2;cases d2;obtain ⟨o3,es3,ep3,e3,d3,k3,f3⟩:=F.ns;exact ⟨o3,es3,ep3,e3,d3,k3,λname=>(f3 name).trans ((f2 name).symm.trans (f1 name))⟩
 ·by_cases hb:b=D
  ·subst hb;rw [xQ] at e;cases e;exact ⟨hz,aC,c,hv,eD⟩
  ·rw [xj hb] at e;refine (I.bh b u e).gG (λc v hc q=>keep c v (λz=>?_) q) (λc q=>by rw [xj (neT c _ q)];exact q) λc ys q=>by rw [xj (neT c _ q)];exact q
   rcases hc with rfl | hc
   ·rw [z,I.free] at e;cases e
   ·rw [z,I.free] at hc;cases hc
end
section
variable {prog:Program}{w:World}{A:Around}{E:Value->Shared->Prop}{s:Shared}
theorem sC {aC:List Value}(eB:aC.length < 2):(aC.toArray.zip aC.toArray).map (·.2)=aC.toArray:=by
 rcases aC with _ | ⟨x,_ | ⟨y,r⟩⟩
 ·simp
 ·simp
 ·exact absurd eB (by simp)
theorem sy {a:Addr}{aC:List Value}{k:Nat}{P:PySem.Fin->Shared->Prop}(hx:s.heap.get? a=some (seqObj "list" aC.toArray k))(eB:aC.length < 2)
  (done:P (.done (.ret .none)) { s with heap:=sortedHeap s.heap a aC aC.toArray }):wpAny (model prog w) A (Builtin.«list.sort» ⟨[.ref a],[]⟩) P E s:=by
 have here:a < s.heap.objs.size:=Heap.lt_size hx;have line:aC.length<=sizeLine:=by rw [sizeLine_eq];omega
 rw [list_sort_plain];obtain ⟨e1,WJ⟩:∃ e1,(s.heap.update a (Obj.mapSeq λ_=>(#[]:Array Value))).get? a=some (seqObj "list" #[] e1):=⟨_,get?_update_seq hx (λ_=>#[])⟩;refine wpAny_bind (listItems_at hx rfl (wpAny_bind (listUpdate_at hx rfl (wpAny_bind (seqEpoch_at WJ rfl (wpAny_bind (wpAny_newTuple (wpAny_bind (wpAny_newList (wpAny_holding ?_) (zx _))) line))))
  (by rw [zf];exact line) (zx _))))
 have at2:(((s.heap.update a (Obj.mapSeq λ_=>(#[]:Array Value))).push (seqObj "tuple" aC.toArray 0)).push (seqObj "list" #[] 0)).get? a=some (seqObj "list" #[] e1):=
  Heap.get?_push_of_some _ (Heap.get?_push_of_some _ WJ)
 show wpAny (model prog w) A _ P E { s with heap:=((s.heap.update a (Obj.mapSeq λ_=>(#[]:Array Value))).push (seqObj "tuple" aC.toArray 0)).push (seqObj "list" #[] 0) };have less:aC.toArray.size < 2:=by rw [zf];exact eB
 have SG:(arrOf (SortSt.mk' general' (aC.toArray.zip aC.toArray) #[] 7 none)).map (·.2)=aC.toArray:=by
  show (aC.toArray.zip aC.toArray).map (·.2)=aC.toArray;exact sC eB
 dsimp only;rw [if_pos less,if_pos less];refine wpAny_bind (wpAny_pure ?_);rw [StateT.run_pure];refine wpAny_bind (wpAny_pure ?_);dsimp only;refine wpAny_bind (seqEpoch_at at2 rfl (wpAny_bind (listUpdate_at at2 rfl ?_ (zx _) (by rw [SG,zf];omega))));simp only [bne_self_eq_false,zw,if_false];rw [SG];exact wpAny_pure done
theorem nB {l:Addr}{aC:List Value}{Q:Value->Shared->Prop}(hl:s.heap.IsList l aC.toArray)(eB:aC.length < 2)
  (done:Q (.ref (s.heap.objs.size + 1)) { s with heap:=sortedAll s.heap aC aC.toArray }):wpAny (model prog w) A (call (.builtin "sorted") [.ref l]) Q E s:=by
 have line:aC.length<=sizeLine:=by rw [sizeLine_eq];omega
 refine Calls.call_function_entry kind_sorted plain_sorted entry_sorted (args_sorted1 _) ?_;unfold Builtin.«sorted»;refine wpAny_bind (m:=checkCount "sorted" 1 1 _) (wpAny_pure (wpAny_bind (collect_list hl (wpAny_bind (wpAny_newList ?_ line)) line)));have sz:((s.heap.push (seqObj "list" #[] 0)).update s.heap.objs.size (Obj.mapSeq (·++aC.toArray))).objs.size=s.heap.objs.size + 1:=by rw [Heap.size_update,size_push']
 have atL:(((s.heap.push (seqObj "list" #[] 0)).update s.heap.objs.size (Obj.mapSeq (·++aC.toArray))).push (seqObj "list" aC.toArray 0)).get? (s.heap.objs.size + 1)=some (seqObj "list" aC.toArray 0):=by
  rw [<-sz];exact Heap.get?_push_size _ rfl
 show wpAny _ _ _ _ _ { s with heap:=((s.heap.push (seqObj "list" #[] 0)).update s.heap.objs.size (Obj.mapSeq (·++aC.toArray))).push (seqObj "list" aC.toArray 0) };rw [sz];exact wpAny_bind (wpAny_holding (wpAny_call_entry slot_list_sort ⟨_,atL,rfl⟩ entry_list_sort (sy atL eB ⟨_,rfl,wpAny_pure ⟨_,rfl,done⟩⟩) (args_list_sort _)))
end
section
variable {X:Cx}
theorem lX:∀ {ps:List (Addr×List Int)}{us:List Value},Vals (ps.map λa=>V.ref a.1) us->us=ps.map λa=>Value.ref a.1
 | [],us,r=>by cases r;rfl
 | a::ps,us,r=>by
  cases r with
  | cons x y=>rw [lX y];cases x;rfl
def Pk (h:Heap)(a:Addr)(r:List Int):Prop:=∃ o items n,h.get? a=some o/\o.cls=.type "tuple" /\ o.data=.seq items n/\Vals (r.map V.int) items.toList
theorem oM {prog:Program}{w:World}{A:Around}{s:Shared}{b fin:Bool}{Q:Bool->Shared->Prop}:∀ {r r':List Int}{us Pz:List Value}{i:Nat},Vals (r.map V.int) us->Vals (r'.map V.int) Pz->fin=decide (us.length < Pz.length)->Q (lx r r') s ->
  KatLex prog w A b fin Q (us.zip Pz) i s
 | [],[],us,Pz,i,ru,Nx,hf,q=>by cases ru;cases Nx;exact kat_nil (by rw [hf];exact q)
 | [],_::_,us,Pz,i,ru,Nx,hf,q=>by
  cases ru;cases Nx with
  | cons _ _=>exact kat_nil (by rw [hf];simpa [lx] using q)
 | _::_,[],us,Pz,i,ru,Nx,hf,q=>by
  cases Nx;cases ru with
  | cons _ _=>exact kat_nil (by rw [hf];simpa [lx] using q)
 | x::r,y::r',us,Pz,i,ru,Nx,hf,q=>by
  cases ru with
  | cons rx ru=>
  cases Nx with
  | cons ry Nx=>
  obtain ⟨t,rfl⟩:=rx;obtain ⟨t',rfl⟩:=ry;refine kat_cons (wpAny_eqBool_int ?_);unfold lx at q;by_cases e:x=y
  ·subst e;rw [if_pos rfl] at q;rw [show (x == x)=true from by simp];exact kat_yes (oM ru Nx (by rw [hf];simp) q)
  ·rw [if_neg e] at q;rw [show (x == y)=false from by simpa using e];refine kat_no ?_;cases (b && i == 0) with
   | true=>exact oneLt_int q
   | false=>exact kat_one _ _ (lt_int q)
theorem p7 {h:Heap}:∀ {ps:List (Addr×List Int)},(∀ a∈ps,Pk h a.1 a.2/\a.2≠[])->∃ fs,KatTups h (ps.map λa=>Value.ref a.1) fs/\fs.length=ps.length/\∀ v∈fs,∃ i t,v=Value.int i t
 | [],_=>⟨[],KatTups.nil,rfl,λ_ z=>nomatch z⟩
 | (a,r)::ps,hp=>by
  obtain ⟨fs,k,l,f⟩:=p7 λa ha=>hp a (.tail _ ha);obtain ⟨⟨o,items,n,ho,hc,hd,hv⟩,hn⟩:=hp (a,r) (.head _)
  match r,hn,hv with
  | x::r,_,hv=>
   obtain ⟨u,hu,t,e⟩:=Vals.get (i:=0) hv rfl;refine ⟨u::fs,KatTups.cons ho hc hd (by rw [<-hu];simp) k,by simp [l],λv hv=>?_⟩;rcases zG.mp hv with rfl | hv
   ·exact ⟨x,t,e⟩
   ·exact f v hv
theorem IS {α:Type}(d:α)(l:List α):(List.range l.length).map (λi=>l.getD i d)=l:=by
 apply List.ext_getElem
 ·simp
 ·intro i h1 h2;simp [List.getD,h2]
theorem gW:∀ (ps:List (Addr×List Int)),Vals (ps.map λa=>V.ref a.1) (ps.map λa=>Value.ref a.1)
 | []=>.nil
 | _::ps=>.cons rfl (gW ps)
theorem tW:cD X (.builtin "sorted") (λxs H Q=>∃ p,∃ ps:List (Addr×List Int),xs=[.ref p]/\aB X.K H p (ps.map λa=>V.ref a.1)/\ps.length < 64/\(∀ a∈ps,H a.1=some (.tup (a.2.map V.int))/\a.2≠[]) /\
  ∀ l qs,H l=none->List.Perm qs ps->qs.Pairwise (λa b=>lx b.2 a.2=false)->Q (.ref l) (upd H l (.lst (qs.map λa=>V.ref a.1)))):=by
 intro ai s σ H xs us Q I r h;obtain ⟨p,ps,rfl,hq,h64,Jr,q⟩:=h;obtain ⟨u,rfl,rx⟩:=vals1 r;cases rx;obtain ⟨aC,r',pl,hz⟩:=I.list hq;have ei:=lX r';subst ei;have hlen:(ps.map λa=>Value.ref a.1).length=ps.length:=by simp
 by_cases h2:ps.length < 2
 ·refine nB pl.isList (by omega) ?_;have sz:((s.heap.push (seqObj "list" #[] 0)).update s.heap.objs.size (Obj.mapSeq (·++(ps.map λa=>Value.ref a.1).toArray))).objs.size=s.heap.objs.size + 1:=by rw [Heap.size_update,size_push']
  have kp:∀ b o,s.heap.get? b=some o->(sortedAll s.heap (ps.map λa=>Value.ref a.1) (ps.map λa=>Value.ref a.1).toArray).get? b=some o:=λb o e=>by
   have lb:b < s.heap.objs.size:=Heap.lt_size e;unfold sortedAll sortedHeap;rw [Heap.get?_update_ne _ _ _ _ (zt (xC lb))];refine Heap.get?_push_of_some _ (Heap.get?_push_of_some _ ?_);rw [Heap.get?_update_ne _ _ _ _ (zt (xC lb))];refine Heap.get?_push_of_some _ ?_;rw [Heap.get?_update_ne _ _ _ _ (zt lb)];exact Heap.get?_push_of_some _ e
  obtain ⟨c,ec⟩:∃ c,(sortedAll s.heap (ps.map λa=>Value.ref a.1) (ps.map λa=>Value.ref a.1).toArray).get? (s.heap.objs.size + 1)=some (seqObj "list" (ps.map λa=>Value.ref a.1).toArray c):=by
   have e0:=Heap.get?_push_size ((s.heap.push (seqObj "list" #[] 0)).update s.heap.objs.size (Obj.mapSeq (·++(ps.map λa=>Value.ref a.1).toArray))) (o:=seqObj "list" (ps.map λa=>Value.ref a.1).toArray 0) rfl;rw [sz] at e0;unfold sortedAll sortedHeap;have e1:=get?_update_seq e0 (λ_=>(#[]:Array Value));exact ⟨_,get?_update_seq (Heap.get?_push_of_some _ (Heap.get?_push_of_some _ e1)) _⟩
  refine ⟨.ref (s.heap.objs.size + 1),_,I.laid (t':=s.toks) kp (Nat.le_succ _) (show bA X.prog X.w _ _ _ (.lst (ps.map λa=>V.ref a.1)) from ⟨hz,_,c,r',ec⟩),rfl,q _ ps (I.bh.fresh (Nat.le_succ _)) (List.Perm.refl _) ?_⟩
  match ps,h2 with
  | [],_=>exact .nil
  | [_],_=>exact List.pairwise_singleton _ _
 ·obtain ⟨m,F⟩:=I.fr;refine kat_sorted F (pV (g:=X.base) (h:=s.heap)) pl.isList (by omega) (by omega) λD e1 h' F' N' lt=>?_;have keep:∀ b o,b≠X.env.locals->s.heap.get? b=some o->h'.get? b=some o:=λb o hb e=>by
   cases q:X.base.get? b with
   | some u=>
    have:=I.bk b u q;rw [e] at this;cases this;exact F'.keep b _ q
   | none=>exact (N' (b,o) (.tail _ (dZ hb q e))).1
  have rowAt:∀ a∈ps,Pk h' a.1 a.2/\a.2≠[]:=λa ha=>by
   obtain ⟨ht,hn⟩:=Jr a ha;obtain ⟨_,aC,rv,o,e,c,n,d⟩:=I.bh a.1 _ ht;refine ⟨⟨o,_,n,keep a.1 o (λz=>?_) e,c,d,rv⟩,hn⟩;rw [z,I.free] at ht;cases ht
  obtain ⟨fs,kt,lf,hf⟩:=p7 rowAt;refine kat_kind (T:=.type "int") kt (by omega) (λv hv=>?_) (by decide) ?_
  ·obtain ⟨i,t,rfl⟩:=hf v hv;exact Looks.now
  have n1:1<=(ps.map λa=>Value.ref a.1).length:=by omega
  refine fL.wp (c:=cf λi=>rk (ps.map (·.2)) ((ps.map (·.2)).getD i [])) (λi j C hi hj hC=>?_) (λpp hp=>?_) _ (Np (f:=λi=>rk (ps.map (·.2)) ((ps.map (·.2)).getD i [])) n1)
  ·have gB:i < ps.length:=by omega
   have Jt:j < ps.length:=by omega
   obtain ⟨⟨o,items,n,ho,hc,hd,hv⟩,hn⟩:=rowAt ps[i] (yC gB);obtain ⟨⟨o',ZF,n',tK,US,O7,Lx⟩,hn'⟩:=rowAt ps[j] (yC Jt);unfold kas_ask;have ei:(ps.map λa=>Value.ref a.1).getD i Value.none=.ref ps[i].1:=by simp [gB]
   have ej:(ps.map λa=>Value.ref a.1).getD j Value.none=.ref ps[j].1:=by simp [Jt]
   rw [ei,ej];refine kat_lt ho hd tK O7 (oM hv Lx (by simp) ?_);have e:cf (λi=>rk (ps.map (·.2)) ((ps.map (·.2)).getD i [])) i j=lx ps[i].2 ps[j].2:=by
    unfold cf;have e1:(ps.map (·.2)).getD i []=ps[i].2:=by simp [gB]
    have e2:(ps.map (·.2)).getD j []=ps[j].2:=by simp [Jt]
    simp only [e1,e2];exact OQ (zX.mpr ⟨ps[i],yC gB,rfl⟩)
   rw [e] at hC;exact hC
  ·obtain ⟨pm,up⟩:=hp;refine KasFin.intro F' N' (UpdF.head λx hx=>zt (lt x hx)) λh2' c F2 N2=>?_;have pl:pp.toList.Perm (List.range ps.length):=by
    have:=pm.toList;rw [hlen] at this;simpa using this
   have eo:(pp.toList.map λi=>(ps.map λa=>Value.ref a.1).getD i Value.none)=(pp.toList.map λi=>ps.getD i (0,[])).map λa=>Value.ref a.1:=by
    rw [zz];refine List.map_congr_left λi hi=>?_;have gB:i < ps.length:=yK.mp (pl.mem_iff.mp hi);simp [gB]
   have perm:(pp.toList.map λi=>ps.getD i (0,[])).Perm ps:=by
    have:=pl.map λi=>ps.getD i (0,[]);rwa [IS] at this
   rw [eo] at N2;have hzz:((pp.toList.map λi=>ps.getD i (0,[])).map λa=>V.ref a.1).length<=sizeLine:=by
    rw [zA,perm.length_eq,sizeLine_eq];omega
   obtain ⟨I2,hD⟩:=I.KG F F2 N2 lt (gW _) hzz;refine ⟨.ref D,_,I2,rfl,q D _ hD perm ?_⟩;rw [List.pairwise_iff_getElem];intro i j hi hj tL;simp only [zA,Array.length_toList] at hi hj;simp only [List.getElem_map,Array.getElem_toList];have hn:pp.size=ps.length:=by rw [pm.size];exact hlen
   have key:=up i j (xA tL) (by omega);have a1:pp[i] < ps.length:=yK.mp (pl.mem_iff.mp (by simp));have a2:pp[j] < ps.length:=yK.mp (pl.mem_iff.mp (by simp));unfold g at'  at key;simp only [hi,hj,getElem?_pos,Option.getD_some] at key;have e1:(ps.map (·.2)).getD pp[i] []=ps[pp[i]].2:=by simp [a1]
   have e2:(ps.map (·.2)).getD pp[j] []=ps[pp[j]].2:=by simp [a2]
   rw [e1,e2] at key;have e3:ps.getD pp[i] (0,[])=ps[pp[i]]:=by simp [a1]
   have e4:ps.getD pp[j] (0,[])=ps[pp[j]]:=by simp [a2]
   rw [e3,e4];have:=OQ (rs:=ps.map (·.2)) (a:=ps[pp[j]].2) (b:=ps[pp[i]].2) (zX.mpr ⟨_,yC a2,rfl⟩);rw [<-this];simp only [decide_eq_false_iff_not];omega
end
end L2
namespace L2
open PySem PySem.Spec PyProof.Rows
def notStar:Expr->Bool
 | .Starred _ _=>false
 | _=>true
theorem vM {e:Expr}{es:List Expr}{env:Env}(h:notStar e=true):starEach (e::es) env=(false,eval e env)::starEach es env:=by cases e <;> first | rfl | cases h
@[irreducible] def RE (X:Cx) (es:List Expr) (t:TA):Prop:=PA X es t
theorem xP {X:Cx}{es:List Expr}{t:TA}(h:RE X es t):PA X es t:=by unfold RE at h;exact h
theorem OS {X:Cx}{es:List Expr}{t:TA}(h:PA X es t):RE X es t:=by unfold RE;exact h
theorem xW {X:Cx}:RE X [] Kh:=OS qU
theorem xR {X:Cx}{e:Expr}{es:List Expr}{te:TE}{t:TA}(ha:PE X e te)(hr:RE X es t)(hn:notStar e=true):RE X (e::es) (oS te t):=OS (NO ha (xP hr) (vM hn))
@[irreducible] def rQ (X:Cx) (es:List Stmt) (t:TS):Prop:=oE X es t
theorem xU {X:Cx}{es:List Stmt}{t:TS}(h:rQ X es t):oE X es t:=by unfold rQ at h;exact h
theorem Mm {X:Cx}{es:List Stmt}{t:TS}(h:oE X es t):rQ X es t:=by unfold rQ;exact h
theorem xu {X:Cx}{a:Stmt}{t:TS}(h:PS X a t):rQ X [a] t:=Mm (NH h)
theorem xl {X:Cx}{a b:Stmt}{rest:List Stmt}{t u:TS}(h:PS X a t)(hr:rQ X (b::rest) u):rQ X (a::b::rest) (Kg t u):=Mm (KR h (xU hr))
section
variable {K:PySem.W.Frag}{a:Addr}{xs:List V}{n:Nat}{caps:List Nat}{g:TG}{tc:TT}{te:TE}{σ:St}{H:Hp}{Qf:Addr->Hp->List V->Prop}
theorem iN {J:It}(Pv:Nat->St->List V->Hp->Prop)(len:Nat)(h0:Pv 0 (dG n caps σ) [] H)(hn:len<=1000)(hl:∀ i τ acc H,Pv i τ acc H->acc.length<=i)
  (hgo:∀ i τ acc H,i < len->Pv i τ acc H->J.go i H) (Ly:∀ τ acc H,Pv len τ acc H->J.stop len H)
  (hs:∀ i τ acc H (C:St->List V->Hp->Prop),i < len->Pv i τ acc H->(∀ τ acc H,Pv (i + 1) τ acc H->C τ acc H)->∀ x H',J.oA i H x H'->g x τ H' fun bu H2=>tc bu H2 λb H3=>if b=true then te bu H3 λy H4=>C bu (acc++[y]) H4 else C bu acc H3)
  (hd:∀ τ acc H,Pv len τ acc H->∀ p,H p=none->Qf p H acc) :
  ∃ W:Nat->Nat->St->List V->Hp->Prop,(∃ m,W 0 m (dG n caps σ) [] H)/\∀ i m τ acc H,W i m τ acc H ->
   (J.stop i H/\acc.length<=sizeLine/\∀ p,H p=none->Qf p H acc) \/
   (J.go i H/\acc.length < sizeLine/\∀ x H',J.oA i H x H'->g x τ H' fun bu H2=>tc bu H2 λb H3=>if b=true then te bu H3 λy H4=>∃ m',m' < m/\W (i + 1) m' bu (acc++[y]) H4 else ∃ m',m' < m/\W (i + 1) m' bu acc H3):=by
 have line:1001<=sizeLine:=by rw [sizeLine_eq];decide
 refine ⟨λi m τ acc H=>m=len - i/\i<=len/\Pv i τ acc H,⟨len,by simp,zx _,h0⟩,?_⟩;rintro i m τ acc H ⟨rfl,hi,p⟩;have q:=hl i τ acc H p;by_cases gc:i < len
 ·exact .inr ⟨hgo i τ acc H gc p,by omega,λx H' y=>hs i τ acc H (fun τ acc H=>∃ m',m' < len - i/\m'=len - (i + 1)/\i + 1<=len/\Pv (i + 1) τ acc H) gc p (fun τ acc H p'=>⟨len - (i + 1),by omega,rfl,gc,p'⟩) x H' y⟩
 ·have e:i=len:=by omega
  subst e;exact .inl ⟨Ly τ acc H p,by omega,hd τ acc H p⟩
theorem kU (Pv:Nat->St->List V->Hp->Prop)(h0:Pv 0 (dG n caps σ) [] H)(hn:xs.length<=1000)(hl:∀ i τ acc H,Pv i τ acc H->acc.length<=i/\aX K H a xs)
  (hs:∀ i x τ acc H (C:St->List V->Hp->Prop),xs[i]?=some x->Pv i τ acc H->(∀ τ acc H,Pv (i + 1) τ acc H->C τ acc H)->g x τ H fun bu H2=>tc bu H2 λb H3=>if b=true then te bu H3 λy H4=>C bu (acc++[y]) H4 else C bu acc H3)
  (hd:∀ τ acc H,Pv xs.length τ acc H->∀ p,H p=none->Qf p H acc) :
  ∃ W:Nat->Nat->St->List V->Hp->Prop,(∃ m,W 0 m (dG n caps σ) [] H)/\∀ i m τ acc H,W i m τ acc H ->
   ((Ov K a).stop i H/\acc.length<=sizeLine/\∀ p,H p=none->Qf p H acc) \/
   ((Ov K a).go i H/\acc.length < sizeLine/\∀ x H',(Ov K a).oA i H x H'->g x τ H' fun bu H2=>tc bu H2 λb H3=>if b=true then te bu H3 λy H4=>∃ m',m' < m/\W (i + 1) m' bu (acc++[y]) H4 else ∃ m',m' < m/\W (i + 1) m' bu acc H3):=
 iN (J:=Ov K a) Pv xs.length h0 hn (λi τ acc H p=>(hl i τ acc H p).1) (λi τ acc H hi p=>⟨xs,xs[i],(hl i τ acc H p).2,by simp [hi]⟩) (fun τ acc H p=>⟨xs,(hl _ τ acc H p).2,zJ _⟩)
  (λi τ acc H C hi p c x H' y=>by obtain ⟨e,y⟩:=y;subst e;exact hs i x τ acc _ C (y xs (hl i τ acc _ p).2) p c) hd
theorem wT (Pv:Nat->St->List V->Hp->Prop)(h0:Pv 0 (dG n caps σ) [] H)(hn:xs.length<=1000)(hl:∀ i τ acc H,Pv i τ acc H->acc.length<=i/\aB K H a xs)
  (hs:∀ i x τ acc H (C:St->List V->Hp->Prop),xs[i]?=some x->Pv i τ acc H->(∀ τ acc H,Pv (i + 1) τ acc H->C τ acc H)->g x τ H fun bu H2=>tc bu H2 λb H3=>if b=true then te bu H3 λy H4=>C bu (acc++[y]) H4 else C bu acc H3)
  (hd:∀ τ acc H,Pv xs.length τ acc H->∀ p,H p=none->Qf p H acc) :
  ∃ W:Nat->Nat->St->List V->Hp->Prop,(∃ m,W 0 m (dG n caps σ) [] H)/\∀ i m τ acc H,W i m τ acc H ->
   ((Ow K a).stop i H/\acc.length<=sizeLine/\∀ p,H p=none->Qf p H acc) \/
   ((Ow K a).go i H/\acc.length < sizeLine/\∀ x H',(Ow K a).oA i H x H'->g x τ H' fun bu H2=>tc bu H2 λb H3=>if b=true then te bu H3 λy H4=>∃ m',m' < m/\W (i + 1) m' bu (acc++[y]) H4 else ∃ m',m' < m/\W (i + 1) m' bu acc H3):=
 iN (J:=Ow K a) Pv xs.length h0 hn (λi τ acc H p=>(hl i τ acc H p).1) (λi τ acc H hi p=>⟨xs,xs[i],(hl i τ acc H p).2,by simp [hi]⟩) (fun τ acc H p=>⟨xs,(hl _ τ acc H p).2,zJ _⟩)
  (λi τ acc H C hi p c x H' y=>by obtain ⟨e,y⟩:=y;subst e;exact hs i x τ acc _ C (y xs (hl i τ acc _ p).2) p c) hd
end
end L2
namespace Sm
open PySem L2 aY
def oF (p:Addr)(H H':Hp):Prop:=∀ b u,b≠p->H b=some u->H' b=some u
theorem oF.refl (p:Addr)(H:Hp):oF p H H:=λ_ _ _ h=>h
theorem oF.trans {p:Addr}{H H1 H2:Hp}(a:oF p H H1)(b:oF p H1 H2):oF p H H2:=λc u n h=>b c u n (a c u n h)
theorem oF.set {p:Addr}{H:Hp}{o:HO}:oF p H (upd H p o):=λb u n h=>by rw [xj n];exact h
theorem oF.new {p l:Addr}{H:Hp}{o:HO}(h:H l=none):oF p H (upd H l o):=λb u n e=>by rw [xj (xV e h)];exact e
def aK (H:Hp)(p:Addr):Prop:=∃ a b c:Int,H p=some (.lst [.int a,.int b,.int c])
def Go (p:Addr)(H H':Hp):Prop:=oF p H H'/\aK H' p
theorem Go.trans {p:Addr}{H H1 H2:Hp}(a:Go p H H1)(b:Go p H1 H2):Go p H H2:=⟨a.1.trans b.1,b.2⟩
theorem Go.refl {p:Addr}{H:Hp}(a:aK H p):Go p H H:=⟨oF.refl p H,a⟩
theorem aK.new {p l:Addr}{H:Hp}{o:HO}(a:aK H p)(h:H l=none):aK (upd H l o) p:=by obtain ⟨x,y,z,e⟩:=a;exact ⟨x,y,z,by rw [xj (xV e h)];exact e⟩
theorem aK.ne {p l:Addr}{H:Hp}(a:aK H p)(h:H l=none):l≠p:=by obtain ⟨x,y,z,e⟩:=a;exact (xV e h).symm
theorem Go.new {p l:Addr}{H H1:Hp}{o:HO}(a:Go p H H1)(h:H1 l=none):Go p H (upd H1 l o):=⟨a.1.trans (oF.new h),a.2.new h⟩
theorem aK.tup {p t:Addr}{H:Hp}{xs:List V}(a:aK H p)(h:H t=some (.tup xs)):t≠p:=by obtain ⟨x,y,z,e⟩:=a;exact qe h e (by intro z;cases z)
def cg (H H':Hp):Prop:=∀ b xs,H b=some (.tup xs)->H' b=some (.tup xs)
theorem cg.refl (H:Hp):cg H H:=λ_ _ h=>h
theorem cg.trans {H H1 H2:Hp}(a:cg H H1)(b:cg H1 H2):cg H H2:=λc u h=>b c u (a c u h)
theorem Go.aS {p:Addr}{H H':Hp}(a:Go p H H')(h:aK H p):cg H H':=λb xs e=>a.1 b _ (h.tup e) e
theorem cg.new {l:Addr}{H:Hp}{o:HO}(h:H l=none):cg H (upd H l o):=λb u e=>by rw [xj (xV e h)];exact e
theorem cg.set {l:Addr}{H:Hp}{xs:List V}{o:HO}(h:H l=some (.lst xs)):cg H (upd H l o):=λb u e=>by rw [xj (qe e h (by intro z;cases z))];exact e
theorem cg.same {H H':Hp}(h:ay H H'):cg H H':=λb u e=>h b _ e
structure M4 where
 lo:Int
 hi:Int
 t:Int
 m:Int
def M4.vs (r:M4):List V:=[.int r.lo,.int r.hi,.int r.t,.int r.m]
def apart (a b:M4):Prop:=a.lo≠b.lo/\a.lo≠b.hi/\a.hi≠b.lo/\a.hi≠b.hi
structure Good (w:Int) (ms:List M4):Prop where
 eB:ms.length<=60
 each:∀ r∈ms,0<=r.lo/\r.lo < r.hi/\r.hi < w/\1<=r.t/\r.t<=1000000000/\1<=r.m/\r.m<=99
 order:ms.Pairwise λa b=>a.t < b.t\/(a.t=b.t/\a.lo < b.lo/\apart a b)
def je (H:Hp)(ps:List (Addr×M4)):Prop:=∀ a∈ps,H a.1=some (.tup a.2.vs)
structure bJ (H:Hp) (b:Addr) (aa:List Int) (tr tm:Addr) (ps:List (Addr×M4)):Prop where
 book:H b=some (.tup [.ref tr,.ref tm])
 aa:H tr=some (.tup (aa.map V.int))
 meets:H tm=some (.tup (ps.map λa=>V.ref a.1))
 rows:je H ps
theorem je.aS {H H':Hp}{ps:List (Addr×M4)}(a:je H ps)(t:cg H H'):je H' ps:=λx hx=>t _ _ (a x hx)
theorem bJ.aS {H H':Hp}{b tr tm:Addr}{aa:List Int}{ps:List (Addr×M4)}(a:bJ H b aa tr tm ps)(t:cg H H'):bJ H' b aa tr tm ps:=
 ⟨t _ _ a.book,t _ _ a.aa,t _ _ a.meets,a.rows.aS t⟩
def uz (K:PySem.W.Frag):Sp:=λvs H Q _=>∃ (a:Addr) (ns:List Int),vs=[.ref a]/\aB K H a (ns.map V.int)/\ns.length<=63/\∀ H',Q (.bl true) H'
def Nj (K:PySem.W.Frag):Sp:=λvs H Q _=>∃ (a:Addr) (ns:List Int) (k:Nat),vs=[.ref a,.int k]/\aB K H a (ns.map V.int)/\k < 1000/\∀ p H',H p=none->aK H' p->ay H H'->Q (.ref p) H'
def PZ:Sp:=λvs H Q _=>∃ p n,vs=[.ref p,.int n]/\0 < n/\n < 2 ^ 200/\aK H p/\∀ d H',0<=d->d < n->Go p H H'->Q (.int d) H'
def SE:Sp:=λvs H Q _=>∃ p,vs=[.ref p]/\aK H p/\∀ d H',0<=d->d<=1000000000->Go p H H'->Q (.int d) H'
def Ni:Sp:=λvs H Q _=>∃ p,∃ n:Nat,vs=[.ref p,.int n]/\n<=1000/\aK H p/\∀ (t:Addr) (aa:List Int) (H':Hp),Go p H H'->H' t=some (.tup (aa.map V.int))->aa.length=n->(∀ r∈aa,(0:Int)<=r/\r<=99)->Q (.ref t) H'
def P0:Sp:=λvs H Q _=>∃ p,vs=[.ref p]/\aK H p/\∀ d H',0<=d->d<=16000000->Go p H H'->Q (.int d) H'
def sj:Sp:=λvs H Q _=>∃ p,∃ w:Int,∃ n:Nat,vs=[.ref p,.int w,.int n]/\n<=60/\w < 1000/\(n=0\/2<=w)/\aK H p /\
 ∀ (t:Addr) (ps:List (Addr×M4)) (H':Hp),Go p H H'->H' t=some (.tup (ps.map λa=>V.ref a.1))->je H' ps->Good w (ps.map (·.2))->ps.length=n->Q (.ref t) H'
def P7:Sp:=λvs H Q _=>∃ p,∃ a:Int,∃ n:Nat,vs=[.ref p,.int a,.int n]/\1<=a/\a<=100/\n<=60/\aK H p /\
 ∀ (b:Addr) (aa:List Int) (tr tm:Addr) (ps:List (Addr×M4)) (H':Hp),Go p H H'->bJ H' b aa tr tm ps->1<=aa.length->(aa.length:Int)<=a->(∀ r∈aa,(0:Int)<=r/\r<=99)->Good aa.length (ps.map (·.2))->ps.length<=n->Q (.ref b) H'
theorem kG {c A B:Prop}[Decidable c](h1:c->A)(h2:¬ c->B):if decide c=true then A else B:=by
 by_cases h:c
 ·rw [if_pos (decide_eq_true h)];exact h1 h
 ·rw [if_neg (by simpa using h)];exact h2 h
theorem aA {c:Bool}{A B:Prop}(hc:c=false)(h:B):if c=true then A else B:=by rw [if_neg (by rw [hc];exact za)];exact h
theorem ak {c:Bool}{A B:Prop}(hc:c=true)(h:A):if c=true then A else B:=by rw [if_pos hc];exact h
theorem tF {c:Bool}{A B:Prop}(h1:c=true->A)(h2:c=false->B):if c=true then A else B:=by
 cases c with
 | true=>exact h1 rfl
 | false=>exact h2 rfl
theorem xT {H:Hp}{p:Addr}{o:HO}(h:H p=none):ay H (upd H p o):=λb u e=>by
 rw [xj (xV e h)];exact e
def M4.row (r:M4):List Int:=[r.t,r.lo,r.hi,r.m]
structure RL (w OC:Int) (bs:List Int) (fs:List (Addr×M4)):Prop where
 each:∀ a∈fs,0<=a.2.lo/\a.2.lo < a.2.hi/\a.2.hi < w/\1<=a.2.t/\a.2.t<=OC/\1<=a.2.m/\a.2.m<=99
 pw:fs.Pairwise λa b=>a.2.t=b.2.t->apart a.2 b.2
 bz:∀ a∈fs,a.2.t=OC->a.2.lo∈bs/\a.2.hi∈bs
theorem RL.step {w wh gap one other m:Int}{bs bs':List Int}{fs:List (Addr×M4)}{a:Addr}(F:RL w wh bs fs)(h1:1<=wh)(g0:0<=gap)(o0:0<=one)(o1:one < w)(p0:0<=other)(p1:other < w)(ne:one≠other)
  (m0:1<=m) (m1:m<=99) (hg:gap=0->one ∉ bs/\other ∉ bs) (hb:∀ x∈bs,gap=0->x∈bs') (ML:one∈bs') (Oc:other∈bs') :
  RL w (wh + gap) bs' (fs++[(a,⟨if other < one then other else one,if other > one then other else one,wh + gap,m⟩)]):=by
 refine ⟨λb hb=>?_,?_,λb hm e=>?_⟩
 ·rcases zV.mp hb with h | h
  ·obtain ⟨a1,a2,a3,a4,a5,a6,a7⟩:=F.each b h;exact ⟨a1,a2,a3,a4,by omega,a6,a7⟩
  ·cases zE.mp h;by_cases c:other < one
   ·rw [if_pos c,if_neg (by omega)];exact ⟨p0,c,o1,by show 1<=wh + gap;omega,yp _,m0,m1⟩
   ·rw [if_neg c,if_pos (by omega)];exact ⟨o0,by show one < other;omega,p1,by show 1<=wh + gap;omega,yp _,m0,m1⟩
 ·rw [List.pairwise_append];refine ⟨F.pw,List.pairwise_singleton _ _,λb hb c hc e=>?_⟩;cases zE.mp hc;have e':b.2.t=wh + gap:=e;obtain ⟨a1,a2,a3,a4,a5,a6,a7⟩:=F.each b hb;have g:gap=0:=by omega
  obtain ⟨x1,x2⟩:=F.bz b hb (by omega);obtain ⟨n1,n2⟩:=hg g;have q1:b.2.lo≠one:=λz=>n1 (z ▸ x1);have q2:b.2.lo≠other:=λz=>n2 (z ▸ x1);have q3:b.2.hi≠one:=λz=>n1 (z ▸ x2);have q4:b.2.hi≠other:=λz=>n2 (z ▸ x2);unfold apart;dsimp only;by_cases c:other < one
  ·rw [if_pos c,if_neg (by omega)];exact ⟨q2,q1,q4,q3⟩
  ·rw [if_neg c,if_pos (by omega)];exact ⟨q1,q2,q3,q4⟩
 ·rcases zV.mp hm with h | h
  ·obtain ⟨a1,a2,a3,a4,a5,a6,a7⟩:=F.each b h;obtain ⟨x1,x2⟩:=F.bz b h (by omega);exact ⟨hb _ x1 (by omega),hb _ x2 (by omega)⟩
  ·cases zE.mp h;by_cases c:other < one
   ·rw [if_pos c,if_neg (by omega)];exact ⟨Oc,ML⟩
   ·rw [if_neg c,if_pos (by omega)];exact ⟨ML,Oc⟩
def M4.iE (l:Int)(r:M4):M4:=⟨r.lo,r.hi,r.t + l,r.m⟩
theorem RL.good {w wh l:Int}{bs:List Int}{fs qs:List (Addr×M4)}(F:RL w wh bs fs)(n:fs.length<=60)(l0:0<=l)(l1:fs≠[]->wh + l<=1000000000)(p:qs.Perm fs)(s:qs.Pairwise λa b=>lx b.2.row a.2.row=false) :
  Good w (qs.map λa=>a.2.iE l):=by
 refine ⟨by rw [zA,p.length_eq];exact n,λr hr=>?_,?_⟩
 ·obtain ⟨a,ha,rfl⟩:=zX.mp hr;have hm:=p.mem_iff.mp ha;obtain ⟨a1,a2,a3,a4,a5,a6,a7⟩:=F.each a hm;have:=l1 (List.ne_nil_of_mem hm);unfold M4.iE;exact ⟨a1,a2,a3,by show 1<=a.2.t + l;omega,by show a.2.t + l<=1000000000;omega,a6,a7⟩
 ·rw [xD];have ap:qs.Pairwise λa b=>a.2.t=b.2.t->apart a.2 b.2:=(List.Perm.pairwise_iff (λ{x y} h e=>by
   obtain ⟨a1,a2,a3,a4⟩:=h e.symm;exact ⟨a1.symm,a3.symm,a2.symm,a4.symm⟩) p).mpr F.pw
  refine (s.and ap).imp λ{a b} ⟨h1,h2⟩=>?_;unfold M4.iE;dsimp only;unfold M4.row lx at h1;by_cases e:a.2.t=b.2.t
  ·have q:=h2 e;rw [if_pos e.symm] at h1;unfold lx at h1;rw [if_neg λz=>q.1 z.symm] at h1;simp only [decide_eq_false_iff_not] at h1;refine .inr ⟨by omega,?_,q⟩;have:=q.1;omega
  ·rw [if_neg λz=>e z.symm] at h1;simp only [decide_eq_false_iff_not] at h1;exact .inl (by omega)
def PM (r:List Int):M4:=⟨r.getD 1 0,r.getD 2 0,r.getD 0 0,r.getD 3 0⟩
theorem vX {fs:List (Addr×M4)}{qs:List (Addr×List Int)}(p:qs.Perm (fs.map λa=>(a.1,a.2.row)))(s:qs.Pairwise λa b=>lx b.2 a.2=false) :
  ∃ rs:List (Addr×M4),rs.Perm fs/\(rs.Pairwise λa b=>lx b.2.row a.2.row=false)/\qs=rs.map λa=>(a.1,a.2.row):=by
 have e:qs=(qs.map λa=>(a.1,PM a.2)).map λa=>(a.1,a.2.row):=by
  rw [zz];refine (List.map_id qs).symm.trans (List.map_congr_left λx hx=>?_);obtain ⟨a,_,rfl⟩:=zX.mp (p.mem_iff.mp hx);rfl
 refine ⟨qs.map λa=>(a.1,PM a.2),?_,?_,e⟩
 ·have:=p.map λa=>(a.1,PM a.2);rw [zz] at this;refine this.trans (.of_eq ?_);refine (List.map_congr_left λx _=>?_).trans (List.map_id fs);rfl
 ·rw [e,xD] at s;exact s
theorem mL (bs:List Int):(bs.map V.int).all cy=true:=by rw [yH];intro x hx;obtain ⟨b,_,rfl⟩:=zX.mp hx;rfl
theorem kI {x:Int}{bs:List Int}:Q2 (.int x) (bs.map V.int)=decide (x∈bs):=by
 unfold Q2;induction bs with
 | nil=>rfl
 | cons b bs ih=>
  rw [zI,List.any_cons,ih];by_cases h:x=b
  ·subst h;simp [rV]
  ·have h':¬ b=x:=λz=>h z.symm;simp [rV,h,h']
def WM (p lf:Addr)(w:Int)(n:Nat)(H:Hp)(i:Nat)(σ:St)(H3:Hp):Prop:=
 ∃ v6 v7 v8 v9 v10 wh lb bs,∃ fs:List (Addr×M4),σ=[some (.ref p),some (.int w),some (.int n),some (.ref lf),some (.int wh),some (.ref lb),v6,v7,v8,v9,v10,none] /\
  H3 lf=some (.lst (fs.map λa=>V.ref a.1))/\H3 lb=some (.lst (List.map V.int bs))/\lb≠lf/\lb≠p/\(∀ a∈fs,H3 a.1=some (.tup (a.2.row.map V.int)))/\RL w wh bs fs/\fs.length=i/\bs.length<=2 * i/\1<=wh/\wh<=10000000 + 16000000 * i/\Go p H H3
theorem WM.step {p lf lb t:Addr}{w wh gap one other m:Int}{n i:Nat}{H Hx:Hp}{bs bs':List Int}{fs:List (Addr×M4)}{v6 v7 v8 v9 v10:Option V}(ME:lf≠p)(LD:H lf=none)
  (F:RL w wh bs fs) (Lm:fs.length=i) (QI:bs'.length<=2 * i + 2) (VC:1<=wh) (XX:wh<=10000000 + 16000000 * i) (hf:Hx lf=some (.lst (fs.map λa=>V.ref a.1))) (hb:Hx lb=some (.lst (List.map V.int bs'))) (nb:lb≠lf) (Tr:lb≠p)
  (rows:∀ a∈fs,Hx a.1=some (.tup (a.2.row.map V.int))) (go:Go p H Hx) (ht:Hx t=none)
  (g0:0<=gap) (g1:gap<=16000000) (o0:0<=one) (o1:one < w) (p0:0<=other) (p1:other < w) (ne:one≠other) (m0:1<=m) (m1:m<=99) (hg:gap=0->one ∉ bs/\other ∉ bs) (hb0:∀ x∈bs,gap=0->x∈bs') (ML:one∈bs') (Oc:other∈bs') :
  WM p lf w n H (i + 1) [some (.ref p),some (.int w),some (.int n),some (.ref lf),some (.int (wh + gap)),some (.ref lb),v6,v7,v8,v9,v10,none]
   (upd (upd Hx t (.tup [.int (wh + gap),.int (if other < one then other else one),.int (if other > one then other else one),.int m])) lf (.lst ((fs.map λa=>V.ref a.1)++[.ref t]))):=by
 have ntf:t≠lf:=(xV hf ht).symm;refine ⟨v6,v7,v8,v9,v10,wh + gap,lb,bs',fs++[(t,⟨if other < one then other else one,if other > one then other else one,wh + gap,m⟩)],rfl,by rw [xQ,zB];rfl,?_,nb,Tr,λa ha=>?_,F.step VC g0 o0 o1 p0 p1 ne m0 m1 hg hb0 ML Oc,by rw [zU,Lm];rfl,by omega,by omega,by omega,λb u nb e=>?_,?_⟩
 ·rw [xj nb,xj (xV hb ht)];exact hb
 ·rcases zV.mp ha with h | h
  ·have:=rows a h;rw [xj (qe this hf (by intro z;cases z)),xj (xV this ht)];exact this
  ·cases zE.mp h;rw [xj ntf,xQ];rfl
 ·rw [xj (xV e LD),xj (xV (go.1 b u nb e) ht)];exact go.1 b u nb e
 ·have:=go.2.new (o:=.tup [.int (wh + gap),.int (if other < one then other else one),.int (if other > one then other else one),.int m]) ht;obtain ⟨x,y,z,e⟩:=this;exact ⟨x,y,z,by rw [xj ME.symm];exact e⟩
theorem Qv {one x w:Int}(o0:0<=one)(o1:one < w)(x0:0<=x)(x1:x < w - 1):0<=(one + 1 + x) % w/\(one + 1 + x) % w < w/\one≠(one + 1 + x) % w:=by
 refine ⟨xJ _ (by omega),yz _ (by omega),?_⟩;by_cases h:one + 1 + x < w
 ·rw [Int.emod_eq_of_lt (by omega) h];omega
 ·have e:(one + 1 + x) % w=(one + 1 + x - w) % w:=by
   have:one + 1 + x=(one + 1 + x - w) + w:=by omega
   rw [this,Int.add_emod_right];congr 1;omega
  rw [e,Int.emod_eq_of_lt (by omega) (by omega)];omega
theorem Go.same {p:Addr}{H H1 H2:Hp}(a:Go p H H1)(s:ay H1 H2):Go p H H2:=⟨λb u n e=>s b u (a.1 b u n e),by obtain ⟨x,y,z,e⟩:=a.2;exact ⟨x,y,z,s _ _ e⟩⟩
theorem wF {α:Type}{f:α->V}{l:List α}{i:Nat}{x:V}(h:(l.map f)[i]?=some x):∃ r,l[i]?=some r/\x=f r:=by
 rw [zD] at h;cases e:l[i]? with
 | none=>rw [e] at h;cases h
 | some r=>rw [e] at h;exact ⟨r,rfl,(Option.some.inj h).symm⟩
theorem xv {α:Type}{l:List α}{i:Nat}{r:α}(h:l[i]?=some r):l.take (i + 1)=l.take i++[r]:=by rw [List.take_add_one,h];rfl
theorem aB.but {K:PySem.W.Frag}{p a:Addr}{H H':Hp}{xs:List V}(h:aB K H a xs)(hp:H p=none)(s:oF p H H'):aB K H' a xs:=by
 rcases h with (h | ⟨o,h⟩) | h
 ·exact .inl (.inl (s _ _ (xV h hp) h))
 ·exact .inl (.inr ⟨o,s _ _ (xV h hp) h⟩)
 ·exact .inr h
theorem ay.put {l:Addr}{H H':Hp}{o:HO}(h:H l=none)(s:ay H H'):ay H (upd H' l o):=λb u e=>by rw [xj (xV e h)];exact s b u e
theorem bJ.same {H H':Hp}{b tr tm:Addr}{aa:List Int}{ps:List (Addr×M4)}(a:bJ H b aa tr tm ps)(t:ay H H'):bJ H' b aa tr tm ps:=a.aS (cg.same t)
theorem wt {H:Hp}{l:Addr}{xs:List V}(h:H l=some (.lst xs)):fF H (.ref l)=some "list" := by simp only [fF,h]
def uw:Sp:=λvs H Q _=>∃ x t,vs=[x]/\fF H x=some t/\Q (.bl (t == "int")) H
def mD (lo hi:Int):V->Bool
 | .int i=>decide (lo<=i) && decide (i<=hi)
 | _=>false
def Kv:Sp:=λvs H Q _=>∃ x t lo hi,vs=[x,.int lo,.int hi]/\fF H x=some t/\Q (.bl (mD lo hi x)) H
theorem jx {H:Hp}{x:V}(h:fF H x=some "int"):∃ i,x=.int i:=by
 cases x with
 | int i=>exact ⟨i,rfl⟩
 | ref a=>
  unfold fF at h;dsimp only at h;split at h <;> simp at h
 | _=>simp [fF] at h
theorem Ls {H:Hp}{x:V}{t:String}{lo hi:Int}(h:fF H x=some t)(n:¬ t = "int"):mD lo hi x=false:=by
 cases x with
 | int i=>simp [fF] at h;exact absurd h.symm n
 | _=>rfl
def aau (w:Int)(r:M4):Bool:=decide (r.lo=w) || decide (r.hi=w)
def numsTo (ms:List M4)(w:Int):Nat->List Int
 | 0=>[]
 | i + 1=>numsTo ms w i++(if (ms[i]?).any (aau w)=true then [(i:Int)] else [])
def Ky:Sp:=λvs H Q _=>∃ p b j aa tr tm ps,vs=[.ref p,.ref b,.int j]/\(j=0\/j=1)/\bJ H b aa tr tm ps/\Good aa.length (ps.map (·.2))/\aK H p/\∀ d H',0<=d->d<=1000000000->Go p H H'->Q (.int d) H'
theorem Good.len {w:Int}{ps:List (Addr×M4)}(g:Good w (ps.map (·.2))):ps.length<=60:=by simpa using g.eB
theorem Good.at {w:Int}{ps:List (Addr×M4)}(g:Good w (ps.map (·.2))){r:Addr×M4}(h:r∈ps):0<=r.2.lo/\r.2.lo < r.2.hi/\r.2.hi < w/\1<=r.2.t/\r.2.t<=1000000000/\1<=r.2.m/\r.2.m<=99:=g.each _ (zX.mpr ⟨r,h,rfl⟩)
end Sm
namespace L2
open PySem PySem.Spec PyProof.Rows
end L2
namespace bM
open PySem
theorem kX {xs:Array Nat}{j:Nat}(so:xs.toList.Pairwise (· < ·)):∀ (fuel lo hi:Nat),hi - lo<=fuel->lo<=hi->hi<=xs.size->(∀ i (h:i < xs.size),i < lo->xs[i] < j)->(∀ i (h:i < xs.size),hi<=i->j<=xs[i]) ->
  SetTable.below.go xs j fuel lo hi<=xs.size/\(∀ i (h:i < xs.size),i < SetTable.below.go xs j fuel lo hi->xs[i] < j)/\∀ i (h:i < xs.size),SetTable.below.go xs j fuel lo hi<=i->j<=xs[i]
 | 0,lo,hi,hf,h1,h2,hl,hh=>by
  have:lo=hi:=by omega
  subst this;unfold SetTable.below.go;exact ⟨h2,hl,hh⟩
 | fuel + 1,lo,hi,hf,h1,h2,hl,hh=>by
  unfold SetTable.below.go;have mono:∀ a b (ha:a < xs.size) (hb:b < xs.size),a < b->xs[a] < xs[b]:=λa b ha hb ab=>by
   have:=List.pairwise_iff_getElem.mp so a b (by simpa using ha) (by simpa using hb) ab;simpa using this
  by_cases c:lo < hi
  ·rw [if_pos c];dsimp only;have hm:(lo + hi) / 2 < xs.size:=by omega
   have e:xs.getD ((lo + hi) / 2) j=xs[(lo + hi) / 2]:=by simp [Array.getD,hm]
   rw [e];by_cases d:xs[(lo + hi) / 2] < j
   ·rw [if_pos d];refine kX so fuel _ _ (by omega) (by omega) h2 (λi h gB=>?_) hh;by_cases q:i=(lo + hi) / 2
    ·subst q;exact d
    ·exact Nat.lt_trans (mono i ((lo + hi) / 2) h hm (by omega)) d
   ·rw [if_neg d];refine kX so fuel _ _ (by omega) (by omega) (by omega) hl (λi h gB=>?_);by_cases q:i=(lo + hi) / 2
    ·subst q;omega
    ·have:=mono ((lo + hi) / 2) i hm h (by omega);omega
  ·rw [if_neg c];have:lo=hi:=by omega
   subst this;exact ⟨h2,hl,hh⟩
theorem kW {xs:Array Nat}{j:Nat}(so:xs.toList.Pairwise (· < ·)):SetTable.below xs j<=xs.size/\(∀ i (h:i < xs.size),i < SetTable.below xs j->xs[i] < j)/\∀ i (h:i < xs.size),SetTable.below xs j<=i->j<=xs[i]:=
 kX so _ _ _ (by omega) (by omega) (zJ _) (λ_ _ h=>absurd h (yg _)) (λi h hi=>absurd h (by omega))
theorem below_at {xs:Array Nat}{j i:Nat}(so:xs.toList.Pairwise (· < ·))(h:xs[i]?=some j):SetTable.below xs j=i:=by
 obtain ⟨hi,e⟩:=Array.getElem?_eq_some_iff.mp h;obtain ⟨b1,b2,b3⟩:=kW (j:=j) so;rcases Nat.lt_trichotomy (SetTable.below xs j) i with c | c | c
 ·have hb:SetTable.below xs j < xs.size:=by omega
  have:=b3 _ hb (zJ _);have m:=List.pairwise_iff_getElem.mp so (SetTable.below xs j) i (by simpa using hb) (by simpa using hi) c;simp only [Array.getElem_toList] at m;omega
 ·exact c
 ·have:=b2 i hi c;omega
theorem iW {t:SetTable}{j i:Nat}(so:t.place.toList.Pairwise (· < ·))(h:t.place[i]?=some j):t.slot j=.live i:=by unfold SetTable.slot;dsimp only;rw [below_at so h,h];simp
theorem sE {t:SetTable}{j:Nat}(nd:t.dummies=#[])(h:j ∉ t.place.toList):t.slot j=.empty:=by
 unfold SetTable.slot;dsimp only;rw [if_neg,if_neg]
 ·rw [nd];unfold SetTable.has;simp
 ·intro c;have:t.place[SetTable.below t.place j]?=some j:=by simpa using c
  exact h (by simpa using Array.mem_of_getElem? this)
def JY (m:Nat)(p:SetTable.Probe):SetTable.Probe:=
 if p.more > 0 then { p with j:=p.j + 1,more:=p.more - 1 } else
 { p with j:=(SetTable.leap m p.i p.perturb).1,more:=SetTable.runEnd m (SetTable.leap m p.i p.perturb).1 - (SetTable.leap m p.i p.perturb).1,i:=(SetTable.leap m p.i p.perturb).1,perturb:=(SetTable.leap m p.i p.perturb).2 }
theorem lF (t:SetTable)(p:SetTable.Probe):t.advance p=JY t.mask p:=rfl
def run (m i u:Nat):SetTable.Probe:={ j:=i,more:=SetTable.runEnd m i - i,i,perturb:=u,dummy:=none }
def start (m:Nat)(h:Int):SetTable.Probe:=run m (SetTable.bits h % (m + 1)) (SetTable.bits h)
def ad (m:Nat):Nat->SetTable.Probe->SetTable.Probe
 | 0,p=>p
 | n + 1,p=>ad m n (JY m p)
theorem iR (m n:Nat)(p:SetTable.Probe):ad m (n + 1) p=JY m (ad m n p):=by
 induction n generalizing p with
 | zero=>rfl
 | succ n ih=>exact ih (JY m p)
theorem Mt (m a b:Nat)(p:SetTable.Probe):ad m (a + b) p=ad m b (ad m a p):=by
 induction a generalizing p with
 | zero=>rw [zn];rfl
 | succ a ih=>rw [Nat.succ_add];exact ih (JY m p)
theorem JI {m:Nat}{p:SetTable.Probe}:(JY m p).dummy=p.dummy:=by unfold JY;split <;> rfl
theorem rP {m:Nat}:∀ {n:Nat}{p:SetTable.Probe},(ad m n p).dummy=p.dummy
 | 0,_=>rfl
 | n + 1,p=>(rP (n:=n)).trans JI
def at' (m:Nat)(h:Int)(n:Nat):Nat:=(ad m n (start m h)).j
theorem gi {m i u:Nat}:∀ k,k<=SetTable.runEnd m i - i->ad m k (run m i u)={ j:=i + k,more:=SetTable.runEnd m i - i - k,i,perturb:=u,dummy:=none }
 | 0,_=>rfl
 | k + 1,h=>by
  rw [iR,gi k (by omega)];unfold JY;dsimp only;rw [if_pos (by omega)];rfl
theorem jr {m i u:Nat}:ad m (SetTable.runEnd m i - i + 1) (run m i u)=run m ((i * 5 + 1 + u / 32) % (m + 1)) (u / 32):=by rw [iR,gi _ (zJ _)];unfold JY;dsimp only;rw [if_neg (by omega)];rfl
theorem eT {m i:Nat}:SetTable.runEnd m i - i<=9/\i<=SetTable.runEnd m i/\(i<=m->SetTable.runEnd m i<=m):=by unfold SetTable.runEnd;split <;> omega
def runs (m:Nat):Nat->Nat->Nat->Nat×Nat
 | 0,i,u=>(i,u)
 | r + 1,i,u=>runs m r ((i * 5 + 1 + u / 32) % (m + 1)) (u / 32)
theorem uI {m:Nat}:∀ (r i u:Nat),∃ c,c<=10 * r/\ad m c (run m i u)=run m (runs m r i u).1 (runs m r i u).2
 | 0,i,u=>⟨0,zJ _,rfl⟩
 | r + 1,i,u=>by
  obtain ⟨c,hc,e⟩:=uI r ((i * 5 + 1 + u / 32) % (m + 1)) (u / 32);refine ⟨SetTable.runEnd m i - i + 1 + c,?_,?_⟩
  ·have:=(eT (m:=m) (i:=i)).1;omega
  ·rw [Mt,jr,e];rfl
theorem pe {m:Nat}:∀ (a b i u:Nat),runs m (a + b) i u=runs m b (runs m a i u).1 (runs m a i u).2
 | 0,b,i,u=>by rw [zn];rfl
 | a + 1,b,i,u=>by rw [Nat.succ_add];exact pe a b _ _
theorem ie {m:Nat}:∀ (r i u:Nat),(runs m r i u).2=u / 32 ^ r
 | 0,i,u=>by simp [runs]
 | r + 1,i,u=>by
  show (runs m r _ (u / 32)).2=_;rw [ie r,Nat.div_div_eq_div_mul,Nat.pow_succ,Nat.mul_comm]
theorem jW {m:Nat}:∀ (r i u:Nat),i<=m->(runs m r i u).1<=m
 | 0,i,u,h=>h
 | r + 1,i,u,h=>jW r _ _ (yq.mp (Nat.mod_lt _ (by omega)))
def f5 (m:Nat):Nat->Nat->Nat
 | 0,i=>i
 | s + 1,i=>f5 m s ((i * 5 + 1) % (m + 1))
theorem uH {m:Nat}:∀ (s i:Nat),(runs m s i 0).1=f5 m s i
 | 0,i=>rfl
 | s + 1,i=>by
  show (runs m s ((i * 5 + 1 + 0 / 32) % (m + 1)) (0 / 32)).1=f5 m s ((i * 5 + 1) % (m + 1));rw [Nat.zero_div,zp];exact uH s _
theorem nX {m:Nat}:∀ (a b i:Nat),f5 m (a + b) i=f5 m b (f5 m a i)
 | 0,b,i=>by rw [zn];rfl
 | a + 1,b,i=>by rw [Nat.succ_add];exact nX a b _
def oq (m:Nat):Nat->Nat->Nat->Nat
 | 0,_,acc=>acc
 | s + 1,i,acc=>oq m s ((i * 5 + 1) % (m + 1)) (acc ||| (2 ^ i))
theorem jn {m j:Nat}:∀ (s i acc:Nat),(oq m s i acc).testBit j=true->acc.testBit j=true\/∃ a,a < s/\f5 m a i=j
 | 0,i,acc,h=>.inl h
 | s + 1,i,acc,h=>by
  rcases jn s _ _ h with h | ⟨a,ha,e⟩
  ·rw [Nat.testBit_or,Bool.or_eq_true] at h;rcases h with h | h
   ·exact .inl h
   ·rw [Nat.testBit_two_pow] at h;exact .inr ⟨0,by omega,of_decide_eq_true h⟩
  ·exact .inr ⟨a + 1,by omega,e⟩
def Mask (m:Nat):Prop:=m=7\/m=31\/m=127\/m=511\/m=2047\/m=8191
theorem Rr {m:Nat}(hm:Mask m):f5 m (m + 1) 0=0/\∀ j,j<=m->∃ a,a<=m/\f5 m a 0=j:=by
 have key:f5 m (m + 1) 0=0/\oq m (m + 1) 0 0=2 ^ (m + 1) - 1:=by
  rcases hm with rfl | rfl | rfl | rfl | rfl | rfl <;> constructor <;> decide +kernel
 refine ⟨key.1,λj hj=>?_⟩;have:(oq m (m + 1) 0 0).testBit j=true:=by
  rw [key.2,Nat.testBit_two_pow_sub_one];exact decide_eq_true (by omega)
 rcases jn _ _ _ this with h | ⟨a,ha,e⟩
 ·simp at h
 ·exact ⟨a,by omega,e⟩
theorem cover {m i j:Nat}(hm:Mask m)(hi:i<=m)(hj:j<=m):∃ s,s<=m/\f5 m s i=j:=by
 obtain ⟨z,all⟩:=Rr hm;obtain ⟨a,ha,rfl⟩:=all i hi;obtain ⟨b,hb,rfl⟩:=all j hj;by_cases c:a<=b
 ·exact ⟨b - a,by omega,by rw [<-nX];congr 1;omega⟩
 ·refine ⟨b + (m + 1) - a,by omega,?_⟩;rw [<-nX,show a + (b + (m + 1) - a)=(m + 1) + b from by omega,nX,z]
theorem reach {m i u j:Nat}(hm:Mask m)(hi:i<=m)(hu:u < 2 ^ 64)(hj:j<=m):∃ r,r<=m + 13/\(runs m r i u).1=j:=by
 have p0:(runs m 13 i u).2=0:=by
  rw [ie];exact Nat.div_eq_of_lt (zq hu (by decide))
 obtain ⟨s,hs,e⟩:=cover hm (jW 13 i u hi) hj;refine ⟨13 + s,by omega,?_⟩;rw [pe,p0,uH,e]
theorem vA (h:Int):SetTable.bits h < 2 ^ 64:=by
 unfold SetTable.bits;have a:=xJ h (show (2 ^ 64:Int)≠0 by decide);have b:=yz h (show (0:Int) < 2 ^ 64 by decide);have c:((h % 2 ^ 64).toNat:Int)=h % 2 ^ 64:=Int.toNat_of_nonneg a;have d:((2 ^ 64:Nat):Int)=(2:Int) ^ 64:=by decide
 omega
theorem KL {m j:Nat}{h:Int}(hm:Mask m)(hj:j<=m):∃ n,n<=10 * (m + 13)/\at' m h n=j:=by obtain ⟨r,hr,e⟩:=reach (u:=SetTable.bits h) hm (yq.mp (Nat.mod_lt (SetTable.bits h) (show 0 < m + 1 by omega))) (vA h) hj;obtain ⟨c,hc,e2⟩:=uI (m:=m) r (SetTable.bits h % (m + 1)) (SetTable.bits h);refine ⟨c,by omega,?_⟩;unfold at' start;rw [e2,e];rfl
theorem least {P:Nat->Prop}:∀ n,P n->∃ k,k<=n/\P k/\∀ i,i < k->¬ P i:=by
 intro n;induction n using Nat.strongRecOn with
 | _ n ih=>
  intro h;by_cases c:∃ i,i < n/\P i
  ·obtain ⟨i,hi,pi⟩:=c;obtain ⟨k,hk,pk,al⟩:=ih i hi pi;exact ⟨k,by omega,pk,al⟩
  ·exact ⟨n,zJ _,h,λi hi pi=>c ⟨i,hi,pi⟩⟩
theorem tQ {m:Nat}{O:Nat->Prop}(h:Int)(hm:Mask m)(he:∃ j,j<=m/\¬ O j):∃ N,N<=10 * (m + 13)/\¬ O (at' m h N)/\∀ n,n < N->O (at' m h n):=by obtain ⟨j,hj,no⟩:=he;obtain ⟨n,hn,e⟩:=KL (h:=h) hm hj;obtain ⟨k,hk,pk,al⟩:=least (P:=λn=>¬ O (at' m h n)) n (by rw [e];exact no);exact ⟨k,by omega,pk,λi hi=>Classical.byContradiction λc=>al i hi c⟩
theorem rM {m:Nat}{h:Int}:∀ n,at' m h n<=m:=by
 have key:∀ n,(ad m n (start m h)).j + (ad m n (start m h)).more<=m:=by
  have step:∀ p:SetTable.Probe,p.j + p.more<=m->(JY m p).j + (JY m p).more<=m:=λp hp=>by
   unfold JY;split
   ·dsimp only;omega
   ·dsimp only;have l:(SetTable.leap m p.i p.perturb).1<=m:=yq.mp (Nat.mod_lt _ (by omega));have:=eT (m:=m) (i:=(SetTable.leap m p.i p.perturb).1);have:=this.2.2 l;omega
  intro n;induction n with
  | zero=>
   show SetTable.bits h % (m + 1) + (SetTable.runEnd m (SetTable.bits h % (m + 1)) - SetTable.bits h % (m + 1))<=m;have l:SetTable.bits h % (m + 1)<=m:=yq.mp (Nat.mod_lt _ (by omega));have:=eT (m:=m) (i:=SetTable.bits h % (m + 1));have:=this.2.2 l;omega
  | succ n ih=>rw [iR];exact step _ ih
 intro n;have:=key n;unfold at';omega
end bM
namespace bM
open PySem
structure Tab (t:SetTable) (es:Array (Int×Value)):Prop where
 mask:Mask t.mask
 nd:t.dummies=#[]
 so:t.place.toList.Pairwise (· < ·)
 sz:t.place.size=es.size
 small:∀ j∈t.place.toList,j<=t.mask
 mj:es.size * 5 < t.mask * 3
 way:∀ i (h:i < es.size),∃ n,t.place[i]?=some (at' t.mask es[i].1 n)/\∀ n',n' < n->at' t.mask es[i].1 n'∈t.place.toList
theorem Tab.room {t:SetTable}{es:Array (Int×Value)}(T:Tab t es):es.size<=t.mask:=by have:=T.mj;omega
theorem Tab.fits {t:SetTable}{es:Array (Int×Value)}(T:Tab t es):t.fits es.size=true:=by unfold SetTable.fits SetTable.fill;have:=T.room;rw [T.sz,T.nd];simp;exact this
theorem Tab.odd {t:SetTable}{es:Array (Int×Value)}(T:Tab t es):t.gaveWay=false:=by unfold SetTable.gaveWay;rcases T.mask with h | h | h | h | h | h <;> rw [h] <;> rfl
theorem ou:∀ (n:Nat) (l:List Nat),(∀ j,j < n->j∈l)->n<=l.length
 | 0,_,_=>zx _
 | n + 1,l,h=>by
  have:=ou n (l.erase n) λj hj=>(List.mem_erase_of_ne (by omega)).mpr (h j (by omega));rw [List.length_erase_of_mem (h n (by omega))] at this;have:=List.length_pos_of_mem (h n (by omega));omega
theorem Ln {l:List Nat}{m:Nat}(h:l.length<=m):∃ j,j<=m/\j ∉ l:=by refine Classical.byContradiction λc=>?_;have:=ou (m + 1) l λj hj=>Classical.byContradiction λz=>c ⟨j,by omega,z⟩;omega
theorem Tab.left {t:SetTable}{es:Array (Int×Value)}(T:Tab t es):∃ j,j<=t.mask/\¬ j∈t.place.toList:=by have:=Ln (l:=t.place.toList) (m:=t.mask) (by rw [Array.length_toList,T.sz];exact T.room);exact this
theorem Tab.first {t:SetTable}{es:Array (Int×Value)}(T:Tab t es)(h:Int):∃ N,N<=10 * (t.mask + 13)/\¬ at' t.mask h N∈t.place.toList/\∀ n,n < N->at' t.mask h n∈t.place.toList:=tQ h T.mask T.left
theorem Ms {t:SetTable}{j:Nat}(h:j∈t.place.toList):∃ i:Nat,t.place[i]?=some j:=by obtain ⟨i,hi,e⟩:=yn h;exact ⟨i,by rw [<-Array.getElem?_toList,zF hi,e]⟩
theorem pH {t:SetTable}{es:Array (Int×Value)}(T:Tab t es){hashAt:Nat->Int}{h:Int}{N:Nat}(hN:¬ at' t.mask h N∈t.place.toList)(fH:∀ n,n < N->at' t.mask h n∈t.place.toList) :
  ∀ (d k fuel:Nat),N - k=d->k<=N->d < fuel ->
   (∃ n i,k<=n/\n < N/\t.place[i]?=some (at' t.mask h n)/\hashAt i=h/\(∀ n',k<=n'->n' < n->∀ i',t.place[i']?=some (at' t.mask h n')->hashAt i'≠h)/\SetTable.probe.go t hashAt h fuel (ad t.mask k (start t.mask h))=some (.candidate (at' t.mask h n) i (ad t.mask (n + 1) (start t.mask h)))) \/
   ((∀ n',k<=n'->n' < N->∀ i',t.place[i']?=some (at' t.mask h n')->hashAt i'≠h)/\SetTable.probe.go t hashAt h fuel (ad t.mask k (start t.mask h))=some (.empty (at' t.mask h N) none))
 | d,k,0,e,hk,hf=>absurd hf (yg _)
 | 0,k,fuel + 1,e,hk,hf=>by
  have:k=N:=by omega
  subst this;refine .inr ⟨λn' h1 h2=>absurd h1 (by omega),?_⟩;unfold SetTable.probe.go;rw [show (ad t.mask k (start t.mask h)).j=at' t.mask h k from rfl,sE T.nd hN];dsimp only;rw [rP];rfl
 | d + 1,k,fuel + 1,e,hk,hf=>by
  obtain ⟨i,hi⟩:=Ms (fH k (by omega));by_cases c:hashAt i=h
  ·refine .inl ⟨k,i,zJ _,by omega,hi,c,λn' h1 h2=>absurd h1 (by omega),?_⟩;unfold SetTable.probe.go;rw [show (ad t.mask k (start t.mask h)).j=at' t.mask h k from rfl,iW T.so hi];dsimp only;rw [if_pos (by rw [c];simp),lF,<- iR]
  ·have step:SetTable.probe.go t hashAt h (fuel + 1) (ad t.mask k (start t.mask h))=SetTable.probe.go t hashAt h fuel (ad t.mask (k + 1) (start t.mask h)):=by
    conv=>lhs;unfold SetTable.probe.go
    rw [show (ad t.mask k (start t.mask h)).j=at' t.mask h k from rfl,iW T.so hi];dsimp only;rw [if_neg (by simpa using c),lF,<- iR]
   have here:∀ i',t.place[i']?=some (at' t.mask h k)->hashAt i'≠h:=λi' gB=>by
    have:=(below_at T.so gB).symm.trans (below_at T.so hi);rw [this];exact c
   rw [step];rcases pH T hN fH d (k + 1) fuel (by omega) (by omega) (by omega) with ⟨n,i2,a1,a2,a3,a4,a5,a6⟩ | ⟨a1,a2⟩
   ·refine .inl ⟨n,i2,by omega,a2,a3,a4,λn' h1 h2 i' gB=>?_,a6⟩;by_cases q:n'=k
    ·subst q;exact here i' gB
    ·exact a5 n' (by omega) h2 i' gB
   ·refine .inr ⟨λn' h1 h2 i' gB=>?_,a2⟩;by_cases q:n'=k
    ·subst q;exact here i' gB
    ·exact a1 n' (by omega) h2 i' gB
end bM
namespace bM
open PySem
section
variable {prog:Program}{w:World}{K:Type} [DecidableEq K] {knd:HeapKind prog w K}{A:Around}{E:Value->Shared->Prop}{s:Shared}{a:Addr}
def Vt (knd:HeapKind prog w K)(h:Heap)(es:Array (Int×Value))(ks:Nat->K):Prop:=∀ i (hi:i < es.size),∃ b,es[i]=(knd.hash (ks i),.ref b)/\knd.is h (ks i) b
def Calm (knd:HeapKind prog w K)(A:Around)(s:Shared):Prop:=∀ (k:K) (b:Addr),knd.is s.heap k b->∀ (E:Value->Shared->Prop) (Q:Bool->Shared->Prop),Q false s->wpAny (model prog w) A (ofAClassStatement 8 (.ref b)) Q E s
theorem K6 {k:K}{c:Addr}(hk:knd.is s.heap k c)(cl:Calm knd A s):∀ (ys:List Value),(∀ y∈ys,∃ k b,y=.ref b/\knd.is s.heap k b)->∀ {Q:Bool->Shared->Prop},Q false s->wpAny (model prog w) A (searchCouldBeSeen (.ref c) ys) Q E s:=by
 intro ys hy Q q;unfold searchCouldBeSeen;refine wpAny_bind ?_;refine wpAny_forIn_list _ (λrest r s'=>r.1=none/\s'=s/\∀ y∈rest,∃ k b,y=.ref b/\knd.is s.heap k b) _ ?_ ?_ _ _ ⟨rfl,rfl,hy⟩
 ·rintro y rest r s' ⟨hr,rfl,fH⟩;obtain ⟨k2,b,rfl,hb⟩:=fH _ zo;have next:∀ u∈rest,∃ k b,u=Value.ref b/\knd.is s'.heap k b:=λu hu=>fH u (zc _ hu);dsimp only;split
  ·exact wpAny_pure ⟨rfl,rfl,next⟩
  ·refine wpAny_bind (knd.quiet hk ?_);simp only [Bool.not_true,zw,if_false];refine wpAny_bind (knd.quiet hb ?_);simp only [Bool.not_true,zw,if_false];refine wpAny_bind (cl _ _ hk _ _ ?_);simp only [zw,if_false];refine wpAny_bind (cl _ _ hb _ _ ?_);simp only [zw,if_false];exact wpAny_pure ⟨rfl,rfl,next⟩
 ·rintro ⟨r1,r2⟩ s' ⟨hr,rfl,_⟩;simp only at hr;subst hr;exact wpAny_pure q
theorem search {o:Obj}{es:Array (Int×Value)}{ep:Nat}{t:SetTable}{ks:Nat->K}{kx:K}{c:Addr}{adding:Bool}{Q:SetFound->Shared->Prop}(hr:knd.room A)(ho:s.heap.get? a=some o)(hd:o.data=.set es ep t)(T:Tab t es)(ke:Vt knd s.heap es ks)(hx:knd.is s.heap kx c)(cl:Calm knd A s)
  (qt:∀ r:Option Nat,(r=none->adding=true)->(∃ i,i < es.size/\ks i=kx)->Q (.there r) s) {N:Nat} (hN:¬ at' t.mask (knd.hash kx) N∈t.place.toList) (fH:∀ n,n < N->at' t.mask (knd.hash kx) n∈t.place.toList) (hNb:N<=10 * (t.mask + 13))
  (qf:(∀ i,i < es.size->ks i≠kx)->Q (.free (at' t.mask (knd.hash kx) N) false) s) :
  ∀ (fuel k:Nat) (st:Option SetTable.Probe),N - k < fuel->k<=N->st.getD (t.probeStart (knd.hash kx))=ad t.mask k (start t.mask (knd.hash kx))->(∀ n',n' < k->∀ i',t.place[i']?=some (at' t.mask (knd.hash kx) n')->ks i'≠kx) ->
   wpAny (model prog w) A (setSearchFrom a (.ref c) (knd.hash kx) adding fuel st) Q E s
 | 0,k,st,hf,_,_,_=>absurd hf (yg _)
 | fuel + 1,k,st,hf,hk,lT,prev=>by
  unfold setSearchFrom;refine wpAny_bind (wpAny_setState_of ho hd T.fits ?_);dsimp only;rw [T.odd,lT];simp only [zw,if_false];unfold SetTable.probe;rcases pH T hN fH (hashAt:=λi=>((es[i]?).map (·.1)).getD 0) _ k (10 * SetTable.turns t.mask) rfl hk (by unfold SetTable.turns;omega) with ⟨n,i,a1,a2,a3,a4,a5,a6⟩ | ⟨a1,a2⟩
  ·generalize hp:SetTable.probe.go t _ (knd.hash kx) (10 * SetTable.turns t.mask) (ad t.mask k (start t.mask (knd.hash kx)))=pr;have e:=hp.symm.trans a6;subst e;have hi:i < es.size:=by
    have:=(Array.getElem?_eq_some_iff.mp a3).1;rw [T.sz] at this;exact this
   obtain ⟨b,eb,hb⟩:=ke i hi;have eg:es[i]?=some (knd.hash (ks i),.ref b):=by rw [<-eb];exact Array.getElem?_eq_getElem hi
   dsimp only;rw [eg];dsimp only;have sl:=iW T.so a3;have mem:t.sameMemory t.moves t.mask=some true:=by simp [SetTable.sameMemory]
   have again:=search (adding:=adding) hr ho hd T ke hx cl qt hN fH hNb qf fuel (n + 1) (some (ad t.mask (n + 1) (start t.mask (knd.hash kx)))) (by omega) (by omega) rfl;have more:ks i≠kx->∀ n',n' < n + 1->∀ i',t.place[i']?=some (at' t.mask (knd.hash kx) n')->ks i'≠kx:=λne n' hn i' gB=>by
    by_cases q:n' < k
    ·exact prev n' q i' gB
    by_cases q2:n'=n
    ·subst q2;have:=(below_at T.so gB).symm.trans (below_at T.so a3);rw [this];exact ne
    ·intro z;have hl:i' < es.size:=by
      have:=(Array.getElem?_eq_some_iff.mp gB).1;rw [T.sz] at this;exact this
     obtain ⟨b',eb',_⟩:=ke i' hl;exact a5 n' (by omega) (by omega) i' gB (by simp [eb',hl,z])
   have stored:∀ y∈List.map (λx=>x.snd) (Array.filter (λx=>x.fst == knd.hash kx) es).toList,∃ k b,y=Value.ref b/\knd.is s.heap k b:=λy hy=>by
    obtain ⟨e,he,rfl⟩:=zX.mp hy;have he:e∈es:=by
     have:e∈es/\e.fst=knd.hash kx:=by simpa using he
     exact this.1
    obtain ⟨j,hj,rfl⟩:=Array.getElem_of_mem he;obtain ⟨b',eb',mJ⟩:=ke j hj;exact ⟨_,b',by rw [eb'],mJ⟩
   split
   ·refine wpAny_bind (K6 hx cl _ stored ?_);simp only [zw,if_false];refine wpAny_bind (wpAny_holding (knd.eqBool hr hb hx ?_));refine wpAny_bind (wpAny_setState_of ho hd T.fits ?_);dsimp only;rw [mem];dsimp only;rw [if_pos (show (true=true) from rfl),sl];dsimp only;rw [eg];dsimp only;by_cases q:ks i=kx
    ·rw [decide_eq_true q];cases adding with
     | true=>exact wpAny_pure (qt _ (λ_=>rfl) ⟨i,hi,q⟩)
     | false=>
      simp only [yR,zw,if_false];refine wpAny_bind (wpAny_isSame_ref_self ?_);exact wpAny_pure (qt _ (λz=>by cases z) ⟨i,hi,q⟩)
    ·rw [decide_eq_false q];simp only [yU,zw,if_false];refine wpAny_bind (wpAny_isSame_ref_self ?_);exact again (more q)
   ·refine wpAny_bind (wpAny_holding (knd.eqBool hr hb hx ?_));refine wpAny_bind (wpAny_setState_of ho hd T.fits ?_);dsimp only;rw [mem];dsimp only;rw [if_pos (show (true=true) from rfl),sl];dsimp only;rw [eg];dsimp only;by_cases q:ks i=kx
    ·rw [decide_eq_true q];cases adding with
     | true=>exact wpAny_pure (qt _ (λ_=>rfl) ⟨i,hi,q⟩)
     | false=>
      simp only [yR,zw,if_false];refine wpAny_bind (wpAny_isSame_ref_self ?_);exact wpAny_pure (qt _ (λz=>by cases z) ⟨i,hi,q⟩)
    ·rw [decide_eq_false q];simp only [yU,zw,if_false];refine wpAny_bind (wpAny_isSame_ref_self ?_);exact again (more q)
  ·generalize hp:SetTable.probe.go t _ (knd.hash kx) (10 * SetTable.turns t.mask) (ad t.mask k (start t.mask (knd.hash kx)))=pr;have e:=hp.symm.trans a2;subst e;dsimp only;refine wpAny_pure (qf λi hi z=>?_);obtain ⟨m,hm,al⟩:=T.way i hi;obtain ⟨b,eb,_⟩:=ke i hi;rw [eb] at hm al;dsimp only at hm al;rw [z] at hm al;have mN:m < N:=Classical.byContradiction λc=>by
    by_cases q:N=m
    ·subst q;exact hN (by simpa using Array.mem_of_getElem? hm)
    ·exact hN (al N (by omega))
   by_cases q:m < k
   ·exact prev m q i hm z
   ·refine a1 m (by omega) mN i hm ?_;simp [eb,hi,z]
structure Rz (knd:HeapKind prog w K) (h:Heap) (a:Addr) (es:Array (Int×Value)) (ep:Nat) (t:SetTable) (ks:Nat->K):Prop where
 obj:h.get? a=some { cls:=.type "set", data:=.set es ep t }
 tab:Tab t es
 keys:Vt knd h es ks
end
end bM
namespace bM
open PySem
theorem kH {α:Type}{l:List α}{p:Nat}{x:α}(hp:p<=l.length)(i:Nat):(l.take p++x::l.drop p)[i]?=if i < p then l[i]? else if i=p then some x else l[i - 1]?:=by
 have lt:(l.take p).length=p:=by rw [zR];omega
 by_cases c:i < p
 ·rw [if_pos c,yZ (by omega),List.getElem?_take_of_lt c]
 ·rw [if_neg c,yL (by omega),lt];by_cases d:i=p
  ·rw [if_pos d,d,Nat.sub_self];rfl
  ·rw [if_neg d,show i - p=(i - p - 1) + 1 from by omega,List.getElem?_cons_succ,List.getElem?_drop];congr 1;omega
theorem Tab.put {t:SetTable}{es:Array (Int×Value)}(T:Tab t es){h:Int}{x:Value}{N:Nat}(hN:¬ at' t.mask h N∈t.place.toList)(fH:∀ n,n < N->at' t.mask h n∈t.place.toList)(pl:Bool) :
  (((es.size + 1) * 5 < t.mask * 3)->Tab { (t.put (at' t.mask h N)).1 with plain:=pl } (SetTable.insertAt es (t.put (at' t.mask h N)).2 (h,x)))/\(t.put (at' t.mask h N)).1.dummies=#[]/\(t.put (at' t.mask h N)).1.mask=t.mask/\(t.put (at' t.mask h N)).1.place.size=es.size + 1:=by
 have e1:(t.put (at' t.mask h N)).1={ t with place:=SetTable.insertAt t.place (SetTable.below t.place (at' t.mask h N)) (at' t.mask h N) }:=by
  unfold SetTable.put;dsimp only;rw [T.nd];unfold SetTable.has;simp
 have e2:(t.put (at' t.mask h N)).2=SetTable.below t.place (at' t.mask h N):=rfl;rw [e1,e2];generalize hj:at' t.mask h N=j at *;obtain ⟨b1,b2,b3⟩:=kW (j:=j) T.so;generalize hp:SetTable.below t.place j=p at *;have lp:(SetTable.insertAt t.place p j).toList=t.place.toList.take p++j::t.place.toList.drop p:=SetTable.toList_insertAt ..;have le:(SetTable.insertAt es p (h,x)).toList=es.toList.take p++(h,x)::es.toList.drop p:=SetTable.toList_insertAt ..;have p1:p<=t.place.toList.length:=by rw [Array.length_toList];exact b1
 have p2:p<=es.toList.length:=by rw [Array.length_toList,<- T.sz];exact b1
 have s1:(SetTable.insertAt t.place p j).size=es.size + 1:=by
  rw [<-Array.length_toList,lp,zU,zH,zR,yx,Array.length_toList,<- T.sz];omega
 have s2:(SetTable.insertAt es p (h,x)).size=es.size + 1:=by
  rw [<-Array.length_toList,le,zU,zH,zR,yx,Array.length_toList];have:=T.sz;omega
 have mem:∀ j',j'∈(SetTable.insertAt t.place p j).toList↔j'=j\/j'∈t.place.toList:=λj'=>by
  rw [lp,zV,zG];constructor
  ·rintro (h | h | h)
   ·exact .inr (yt h)
   ·exact .inl h
   ·exact .inr (List.mem_of_mem_drop h)
  ·rintro (h | h)
   ·exact .inr (.inl h)
   ·rw [<-List.take_append_drop p t.place.toList,zV] at h;exact h.imp id .inr
 refine ⟨λmj=>⟨T.mask,T.nd,?_,by rw [s2];exact s1,λj' Jt=>?_,by rw [s2];exact mj,λi hi=>?_⟩,T.nd,rfl,s1⟩
 ·show (SetTable.insertAt t.place p j).toList.Pairwise (· < ·);rw [lp,List.pairwise_append,List.pairwise_cons];refine ⟨T.so.sublist (List.take_sublist _ _),⟨λy hy=>?_,T.so.sublist (List.drop_sublist _ _)⟩,λy hy z hz=>?_⟩
  ·obtain ⟨i,hi,e⟩:=yn hy;rw [List.getElem_drop] at e;have hl:p + i < t.place.size:=by rw [yx,Array.length_toList] at hi;omega
   have q:=b3 (p + i) hl (by omega);rw [Array.getElem_toList] at e;rw [e] at q;have ne:y≠j:=λz=>hN (by rw [<-z];exact List.mem_of_mem_drop hy);omega
  ·obtain ⟨i,hi,e⟩:=yn hy;rw [List.getElem_take] at e;rw [zR,Array.length_toList] at hi;have hl:i < t.place.size:=by omega
   have q:=b2 i hl (by omega);rw [Array.getElem_toList] at e;rw [e] at q;rcases zG.mp hz with z1 | z1
   ·rw [z1];exact q
   ·obtain ⟨k,hk,ek⟩:=yn z1;rw [List.getElem_drop] at ek;have UK:p + k < t.place.size:=by rw [yx,Array.length_toList] at hk;omega
    have q2:=b3 (p + k) UK (by omega);rw [Array.getElem_toList] at ek;rw [ek] at q2;omega
 ·have Jt:j'∈(SetTable.insertAt t.place p j).toList:=Jt;rcases (mem j').mp Jt with z | z
  ·rw [z,<- hj];exact rM N
  ·exact T.small j' z
 ·show ∃ n,(SetTable.insertAt t.place p j)[i]?=some (at' t.mask (SetTable.insertAt es p (h,x))[i].1 n)/\∀ n',n' < n->at' t.mask (SetTable.insertAt es p (h,x))[i].1 n'∈(SetTable.insertAt t.place p j).toList;have ge:(SetTable.insertAt es p (h,x))[i]?=some (SetTable.insertAt es p (h,x))[i]:=Array.getElem?_eq_getElem hi;generalize (SetTable.insertAt es p (h,x))[i]=e at ge ⊢;rw [<-Array.getElem?_toList,le,kH p2] at ge;rw [<-Array.getElem?_toList,lp,kH p1,<- lp];have old:∀ k,es.toList[k]?=some e->∃ n,t.place.toList[k]?=some (at' t.mask e.1 n)/\∀ n',n' < n->at' t.mask e.1 n'∈(SetTable.insertAt t.place p j).toList:=λk hk=>by
   rw [Array.getElem?_toList] at hk;obtain ⟨ja,ek⟩:=Array.getElem?_eq_some_iff.mp hk;obtain ⟨n,a1,a2⟩:=T.way k ja;rw [ek] at a1 a2;exact ⟨n,by rw [Array.getElem?_toList];exact a1,λn' hn=>(mem _).mpr (.inr (a2 n' hn))⟩
  by_cases c:i < p
  ·rw [if_pos c] at ge ⊢;exact old i ge
  ·rw [if_neg c] at ge ⊢;by_cases d:i=p
   ·rw [if_pos d] at ge ⊢;cases ge;exact ⟨N,by rw [hj],λn' hn=>(mem _).mpr (.inr (fH n' hn))⟩
   ·rw [if_neg d] at ge ⊢;exact old (i - 1) ge
def uS (ow:Array (Option Nat))(j:Nat):Prop:=(ow.getD j (some 0)).isNone=false
theorem mK {m:Nat}{ow:Array (Option Nat)}:∀ (fuel i u:Nat),(∃ r,r < fuel/\¬ uS ow (runs m r i u).1) ->
  ∃ n,SetTable.layClean.free m ow fuel i u=some (ad m n (run m i u)).j/\¬ uS ow (ad m n (run m i u)).j/\∀ n',n' < n->uS ow (ad m n' (run m i u)).j
 | 0,i,u,⟨r,h,_⟩=>absurd h (yg _)
 | fuel + 1,i,u,⟨r,h,no⟩=>by
  unfold SetTable.layClean.free;cases e:(List.range (SetTable.runEnd m i + 1 - i)).find? λk=>(ow.getD (i + k) (some 0)).isNone with
  | some k=>
   dsimp only;obtain ⟨hk,gc,before⟩:=List.find?_range_eq_some.mp e;have gc:k < SetTable.runEnd m i + 1 - i:=yK.mp gc;have inr:∀ k',k'<=k->(ad m k' (run m i u)).j=i + k':=λk' ja=>by rw [gi k' (by omega)]
   refine ⟨k,by rw [inr k (zJ _)],?_,λn' hn=>?_⟩
   ·rw [inr k (zJ _)];unfold uS;rw [hk];simp
   ·rw [inr n' (by omega)];unfold uS;have:=before n' hn;simpa using this
  | none=>
   dsimp only;have all:∀ k,k < SetTable.runEnd m i + 1 - i->uS ow (i + k):=λk hk=>by
    have:=List.find?_eq_none.mp e k (yK.mpr hk);unfold uS;cases q:(ow.getD (i + k) (some 0)).isNone with
    | false=>rfl
    | true=>exact absurd q this
   have r0:r≠0:=λz=>by
    subst z;refine no ?_;exact all 0 (by have:=(eT (m:=m) (i:=i)).2.1;omega)
   obtain ⟨r',rfl⟩:=Nat.exists_eq_succ_of_ne_zero r0;obtain ⟨n,a1,a2,a3⟩:=mK fuel ((i * 5 + 1 + u / 32) % (m + 1)) (u / 32) ⟨r',by omega,no⟩;have next:∀ n',ad m (SetTable.runEnd m i - i + 1 + n') (run m i u)=ad m n' (run m ((i * 5 + 1 + u / 32) % (m + 1)) (u / 32)):=λn'=>by rw [Mt,jr]
   refine ⟨SetTable.runEnd m i - i + 1 + n,?_,?_,λn' hn=>?_⟩
   ·rw [next];exact a1
   ·rw [next];exact a2
   ·by_cases c:n' < SetTable.runEnd m i - i + 1
    ·rw [gi n' (by omega)];exact all n' (by have:=(eT (m:=m) (i:=i)).2.1;omega)
    ·rw [show n'=SetTable.runEnd m i - i + 1 + (n' - (SetTable.runEnd m i - i + 1)) from by omega,next];exact a3 _ (by omega)
structure Lay (m:Nat) (hs:List Int) (ow:Array (Option Nat)):Prop where
 sz:ow.size=m + 1
 each:∀ (k:Nat) (h:Int),hs[k]?=some h->∃ n,ow[at' m h n]?=some (some k)/\∀ n',n' < n->uS ow (at' m h n')
 low:∀ (j k:Nat),ow[j]?=some (some k)->k < hs.length
 one:∀ (j j' k:Nat),ow[j]?=some (some k)->ow[j']?=some (some k)->j=j'
theorem iA {ow:Array (Option Nat)}{j:Nat}(h:j < ow.size):uS ow j↔∃ k,ow[j]?=some (some k):=by unfold uS;rw [show ow.getD j (some 0)=ow[j] from by simp [Array.getD,h],Array.getElem?_eq_getElem h];cases ow[j] <;> simp
theorem Lay.left {m:Nat}{hs:List Int}{ow:Array (Option Nat)}(L:Lay m hs ow)(eB:hs.length<=m):∃ j,j<=m/\¬ uS ow j:=by
 refine Classical.byContradiction λc=>?_;have all:∀ j,j < m + 1->∃ k,ow[j]?=some (some k):=λj hj=>(iA (by rw [L.sz];exact hj)).mp (Classical.byContradiction λz=>c ⟨j,by omega,z⟩);have pick:∀ k,∃ j,k < hs.length->ow[j]?=some (some k):=λk=>by
  by_cases hk:k < hs.length
  ·obtain ⟨n,a,_⟩:=L.each k hs[k] (zF hk);exact ⟨_,λ_=>a⟩
  ·exact ⟨0,λz=>absurd z hk⟩
 have:=ou (m + 1) ((List.range hs.length).map λk=>(pick k).choose) λj hj=>by
  obtain ⟨k,hk⟩:=all j hj;have kl:=L.low j k hk;exact zX.mpr ⟨k,yK.mpr kl,L.one _ _ _ ((pick k).choose_spec kl) hk⟩
 rw [zA,yl] at this;omega
theorem Lay.step {m:Nat}{hs:List Int}{ow:Array (Option Nat)}(hm:Mask m)(L:Lay m hs ow)(eB:hs.length<=m)(h:Int) :
  ∃ j,SetTable.layClean.free m ow (SetTable.turns m) (SetTable.bits h % (m + 1)) (SetTable.bits h)=some j/\Lay m (hs++[h]) (ow.setIfInBounds j (some hs.length)):=by
 obtain ⟨j0,hj0,no⟩:=L.left eB;obtain ⟨r,hr,e⟩:=reach (u:=SetTable.bits h) hm (yq.mp (Nat.mod_lt (SetTable.bits h) (show 0 < m + 1 by omega))) (vA h) hj0;obtain ⟨n,a1,a2,a3⟩:=mK (m:=m) (ow:=ow) (SetTable.turns m) (SetTable.bits h % (m + 1)) (SetTable.bits h) ⟨r,by unfold SetTable.turns;omega,by rw [e];exact no⟩;have ej:(ad m n (run m (SetTable.bits h % (m + 1)) (SetTable.bits h))).j=at' m h n:=rfl;rw [ej] at a1 a2;have a3:∀ n',n' < n->uS ow (at' m h n'):=a3;have jl:at' m h n < ow.size:=by rw [L.sz];exact yq.mpr (rM n)
 have get:∀ j,(ow.setIfInBounds (at' m h n) (some hs.length))[j]?=if at' m h n=j then some (some hs.length) else ow[j]?:=λj=>by
  rw [Array.getElem?_setIfInBounds];by_cases c:at' m h n=j
  ·rw [if_pos c,if_pos c,if_pos jl]
  ·rw [if_neg c,if_neg c]
 have keep:∀ j,uS ow j->j < ow.size->uS (ow.setIfInBounds (at' m h n) (some hs.length)) j:=λj oj hj=>by
  rw [iA (by rw [Array.size_setIfInBounds];exact hj),get];by_cases c:at' m h n=j
  ·exact ⟨_,by rw [if_pos c]⟩
  ·rw [if_neg c];exact (iA hj).mp oj
 have free:∀ k,ow[at' m h n]?≠some (some k):=λk z=>a2 ((iA jl).mpr ⟨k,z⟩);refine ⟨_,a1,by rw [Array.size_setIfInBounds];exact L.sz,λk x hx=>?_,λj k hj=>?_,λj j' k h1 h2=>?_⟩
 ·by_cases c:k < hs.length
  ·rw [yZ c] at hx;obtain ⟨n2,b1,b2⟩:=L.each k x hx;refine ⟨n2,?_,λn' hn=>keep _ (b2 n' hn) (by rw [L.sz];exact yq.mpr (rM n'))⟩;rw [get,if_neg λz=>free k (by rw [z];exact b1)];exact b1
  ·rw [yL (by omega)] at hx;have:k - hs.length=0:=by
    have:=(zQ.mp hx).1;simp at this;omega
   rw [this] at hx;cases hx;have:k=hs.length:=by omega
   subst this;exact ⟨n,by rw [get,if_pos rfl],λn' hn=>keep _ (a3 n' hn) (by rw [L.sz];exact yq.mpr (rM n'))⟩
 ·rw [get] at hj;rw [zU,yr];split at hj
  ·cases hj;omega
  ·have:=L.low j k hj;omega
 ·rw [get] at h1 h2;split at h1 <;> split at h2
  ·rename_i x y;rw [<-x,<- y]
  ·cases h1;have:=L.low _ _ h2;omega
  ·cases h2;have:=L.low _ _ h1;omega
  ·exact L.one _ _ _ h1 h2
theorem pY {m:Nat}(hm:Mask m):∀ (l hs:List Int) (ow:Array (Option Nat)),Lay m hs ow->hs.length + l.length<=m + 1 ->
  ∃ VX,l.foldl (λ(acc:Option (Array (Option Nat)×Nat)) h=>do
   let (owner,k) <- acc
   let j <- SetTable.layClean.free m owner (SetTable.turns m) (SetTable.bits h % (m + 1)) (SetTable.bits h)
   pure (owner.setIfInBounds j (some k),k + 1)) (some (ow,hs.length))=some (VX,hs.length + l.length)/\Lay m (hs++l) VX
 | [],hs,ow,L,_=>⟨ow,rfl,by rw [zO];exact L⟩
 | h::l,hs,ow,L,eB=>by
  obtain ⟨j,e,L'⟩:=L.step hm (by rw [zH] at eB;omega) h;have aaF:(hs++[h]).length + l.length<=m + 1:=by rw [zU,yr];rw [zH] at eB;omega
  obtain ⟨VX,e2,L2⟩:=pY hm l (hs++[h]) _ L' aaF;refine ⟨VX,?_,by rw [xK] at L2;exact L2⟩;rw [xI];show l.foldl _ ((SetTable.layClean.free m ow (SetTable.turns m) (SetTable.bits h % (m + 1)) (SetTable.bits h)).bind λj=>some (ow.setIfInBounds j (some hs.length),hs.length + 1))=_;rw [e];rw [zU,yr] at e2;rw [zH];rw [show hs.length + (l.length + 1)=hs.length + 1 + l.length from by omega];exact e2
theorem Jg {m:Nat}(hm:Mask m){hashes:Array Int}(eB:hashes.size<=m + 1):∃ ow,SetTable.layClean m hashes=some ow/\Lay m hashes.toList ow:=by have L0:Lay m [] (Array.replicate (m + 1) none):=⟨by simp,λk h e=>(by cases e),(λj k e=>by rw [Array.getElem?_replicate] at e;split at e <;> cases e),(λj j' k e=>by rw [Array.getElem?_replicate] at e;split at e <;> cases e)⟩;obtain ⟨ow,e,L⟩:=pY hm hashes.toList [] _ L0 (by rw [zL,Array.length_toList];omega);refine ⟨ow,?_,by simpa using L⟩;unfold SetTable.layClean;rw [<-Array.foldl_toList];have:=congrArg (Option.map (·.1)) e;exact this
theorem NL {l l':List Nat}(h:l.Nodup)(h':l'.Nodup)(e:∀ x,x∈l↔x∈l'):l.Perm l':=by
 rw [List.perm_iff_count];intro a;rw [h.count,h'.count];by_cases c:a∈l
 ·rw [if_pos c,if_pos ((e a).mp c)]
 ·rw [if_neg c,if_neg λz=>c ((e a).mpr z)]
theorem nV {α β:Type}{f:α->Option β}{g:α->β}:∀ {l:List α},(∀ x∈l,f x=some (g x))->l.filterMap f=l.map g
 | [],_=>rfl
 | x::l,h=>by
  rw [List.filterMap_cons_some (h x zo),zI,nV λy hy=>h y (zc _ hy)]
theorem nW {f:Nat->Option Nat}:∀ (l:List Nat),(l.filterMap λj=>(f j).map (j,·)).map (·.1)=l.filter λj=>(f j).isSome
 | []=>rfl
 | x::l=>by
  cases e:f x with
  | none=>rw [List.filterMap_cons_none (by rw [e];rfl),List.filter_cons_of_neg (by rw [e];simp),nW l]
  | some k=>rw [List.filterMap_cons_some (b:=(x,k)) (by rw [e];rfl),List.filter_cons_of_pos (by rw [e];rfl),zI,nW l]
theorem pB {t:SetTable}{es:Array (Int×Value)}{wanted m:Nat}(hw:SetTable.sizeAbove wanted - 1=m)(hm:Mask m)(mj:es.size * 5 < m * 3) :
  ∃ t' order,t.relaid (es.map (·.1)) wanted=some (t',order)/\(order.filterMap (es[·]?)).toList.Perm es.toList/\Tab t' (order.filterMap (es[·]?)):=by
 obtain ⟨ow,e,L⟩:=Jg (hashes:=es.map (·.1)) hm (by rw [Array.size_map];omega);have lh:(es.map (·.1)).toList.length=es.size:=by rw [Array.length_toList,Array.size_map]
 have hh:∀ (k:Nat) (x:Int×Value),es[k]?=some x->(es.map (·.1)).toList[k]?=some x.1:=λk x hx=>by rw [Array.getElem?_toList,Array.getElem?_map,hx];rfl
 let lv:=(List.range (m + 1)).filterMap λj=>(ow.getD j none).map (j,·)
 have e2:t.relaid (es.map (·.1)) wanted=some ({ mask:=m,place:=(lv.map (·.1)).toArray,dummies:=#[],finger:=t.finger,led:=t.led,moves:=t.movedTo m,plain:=t.plain },(lv.map (·.2)).toArray):=by
  unfold SetTable.relaid SetTable.laid;rw [hw,e];rfl
 have f1:lv.map (·.1)=(List.range (m + 1)).filter λj=>(ow.getD j none).isSome:=nW _;have f2:∀ p∈lv,ow[p.1]?=some (some p.2)/\p.1<=m:=λp hp=>by
  obtain ⟨j,hj,q⟩:=yy.mp hp;have hj:j < m + 1:=yK.mp hj;have hs:j < ow.size:=by rw [L.sz];exact hj
  rw [show ow.getD j none=ow[j] from by simp [Array.getD,hs]] at q;cases eo:ow[j] with
  | none=>rw [eo] at q;cases q
  | some k=>rw [eo] at q;cases q;exact ⟨by rw [Array.getElem?_eq_getElem hs,eo],by show j<=m;omega⟩
 have f3:∀ j k,ow[j]?=some (some k)->(j,k)∈lv:=λj k h=>by
  obtain ⟨hs,eo⟩:=Array.getElem?_eq_some_iff.mp h;refine yy.mpr ⟨j,yK.mpr (by rw [L.sz] at hs;exact hs),?_⟩;rw [show ow.getD j none=ow[j] from by simp [Array.getD,hs],eo];rfl
 have so1:(lv.map (·.1)).Pairwise (· < ·):=by rw [f1];exact List.pairwise_lt_range.filter _
 have VL:lv.Pairwise λa b=>a.1 < b.1:=xD.mp so1;have nd:(lv.map (·.2)).Nodup:=by
  refine xD.mpr (VL.imp_of_mem λ{a b} ha hb h z=>?_);have:=L.one _ _ _ (f2 a ha).1 (by rw [z];exact (f2 b hb).1);omega
 have kl:∀ p∈lv,p.2 < es.size:=λp hp=>by have:=L.low _ _ (f2 p hp).1;rw [lh] at this;exact this
 have pm:(lv.map (·.2)).Perm (List.range es.size):=NL nd List.nodup_range λk=>by
  constructor
  ·intro h;obtain ⟨p,hp,rfl⟩:=zX.mp h;exact yK.mpr (kl p hp)
  ·intro h;have hk:k < es.size:=yK.mp h;obtain ⟨n,a,_⟩:=L.each k es[k].1 (hh k _ (Array.getElem?_eq_getElem hk));exact zX.mpr ⟨_,f3 _ _ a,rfl⟩
 let g:Nat->Int×Value:=λk=>(es[k]?).getD (0,Value.none)
 have gk:∀ k,k < es.size->es[k]?=some (g k):=λk hk=>by show es[k]?=some ((es[k]?).getD _);rw [Array.getElem?_eq_getElem hk];rfl
 have e3:((lv.map (·.2)).toArray.filterMap (es[·]?)).toList=lv.map λp=>g p.2:=by
  rw [Array.toList_filterMap,List.filterMap_map];exact nV λp hp=>gk p.2 (kl p hp)
 have e4:es.toList=(List.range es.size).map g:=by
  have:=filterMap_getElem?_range es;rw [nV (g:=g) λk hk=>gk k (yK.mp hk)] at this;exact this.symm
 refine ⟨_,_,e2,?_,?_⟩
 ·rw [e3,e4,show (λp:Nat×Nat=>g p.2)=g ∘ (·.2) from rfl,<- zz];exact pm.map g
 ·have sz:((lv.map (·.2)).toArray.filterMap (es[·]?)).size=lv.length:=by rw [<-Array.length_toList,e3,zA]
  have ll:lv.length=es.size:=by have:=pm.length_eq;rw [zA,yl] at this;exact this
  refine ⟨hm,rfl,by simpa using so1,by rw [sz];simp,λj hj=>?_,by rw [sz,ll];exact mj,λi hi=>?_⟩
  ·have hj:j∈lv.map (·.1):=by simpa using hj
   obtain ⟨p,hp,rfl⟩:=zX.mp hj;exact (f2 p hp).2
  ·have ge:((lv.map (·.2)).toArray.filterMap (es[·]?))[i]?=some ((lv.map (·.2)).toArray.filterMap (es[·]?))[i]:=Array.getElem?_eq_getElem hi;generalize ((lv.map (·.2)).toArray.filterMap (es[·]?))[i]=x at ge ⊢;rw [<-Array.getElem?_toList,e3,zD] at ge;cases ep:lv[i]? with
   | none=>rw [ep] at ge;cases ge
   | some p=>
    rw [ep] at ge;have ge:g p.2=x:=Option.some.inj ge;have hp:=zC ep;have hx:=gk p.2 (kl p hp);rw [ge] at hx;obtain ⟨n,a1,a2⟩:=L.each p.2 x.1 (hh p.2 x hx);have ej:=L.one _ _ _ a1 (f2 p hp).1;refine ⟨n,?_,λn' hn=>?_⟩
    ·show ((lv.map (·.1)).toArray)[i]?=some (at' m x.1 n);rw [List.getElem?_toArray,zD,ep,ej];rfl
    ·show at' m x.1 n'∈((lv.map (·.1)).toArray).toList;obtain ⟨k,hk⟩:=(iA (by rw [L.sz];exact yq.mpr (rM n'))).mp (a2 n' hn);simpa using ⟨k,f3 _ _ hk⟩
end bM
namespace bM
open PySem
section
variable {prog:Program}{w:World}{K:Type} [DecidableEq K] {knd:HeapKind prog w K}{A:Around}{E:Value->Shared->Prop}{s:Shared}{a:Addr}
def mV (knd:HeapKind prog w K):Prop:=∀ (A:Around) (s:Shared) (k:K) (b:Addr),knd.is s.heap k b->∀ (E:Value->Shared->Prop) (Q:Bool->Shared->Prop),(∀ v,Q v s)->wpAny (model prog w) A (hashByValue 8 (.ref b)) Q E s
def bS (es:Array (Int×Value))(ep:Nat)(t:SetTable):Obj:={ cls:=.type "set", data:=.set es ep t }
theorem store {es gO:Array (Int×Value)}{ep:Nat}{t t':SetTable}{Q:Unit->Shared->Prop}(ho:s.heap.get? a=some (bS es ep t))(hz:gO.size<=sizeLine)
  (h:∀ h',Heap.SameBut a s.heap h'->h'.get? a=some (bS gO (ep + 1) t')->Q () { s with heap:=h' }):wpAny (model prog w) A (storeSet a gO t') Q E s:=by
 refine wpAny_storeSet_of ho rfl (h _ (Heap.SameBut.update s.heap a (Obj.putSet gO t')) ?_) hz;have:=Heap.get?_update_self (Obj.putSet gO t') ho (by rw [putSet_of gO t' rfl];rfl);rw [putSet_of gO t' rfl] at this;exact this
theorem tM {n m:Nat}(hm:Mask m)(lt:(n - 1) * 5 < m * 3)(n1:1<=n)(full:n * 5 ≥ m * 3)(eB:n<=4000):Mask (SetTable.sizeAbove (SetTable.grown n) - 1)/\n * 5 < (SetTable.sizeAbove (SetTable.grown n) - 1) * 3/\SetTable.sizeAbove (SetTable.grown n)<=8192:=by
 rcases hm with rfl | rfl | rfl | rfl | rfl | rfl
 ·have:n=5:=by omega
  subst this;exact ⟨.inr (.inl (by decide +kernel)),by decide +kernel,by decide +kernel⟩
 ·have:n=19:=by omega
  subst this;exact ⟨.inr (.inr (.inl (by decide +kernel))),by decide +kernel,by decide +kernel⟩
 ·have:n=77:=by omega
  subst this;exact ⟨.inr (.inr (.inr (.inl (by decide +kernel)))),by decide +kernel,by decide +kernel⟩
 ·have:n=307:=by omega
  subst this;exact ⟨.inr (.inr (.inr (.inr (.inl (by decide +kernel))))),by decide +kernel,by decide +kernel⟩
 ·have:n=1229:=by omega
  subst this;exact ⟨.inr (.inr (.inr (.inr (.inr (by decide +kernel))))),by decide +kernel,by decide +kernel⟩
 ·omega
theorem add {es:Array (Int×Value)}{ep:Nat}{t:SetTable}{ks:Nat->K}{kx:K}{c:Addr}{Q:Bool->Shared->Prop}(hr:knd.room A)(S:Rz knd s.heap a es ep t ks)(hx:knd.is s.heap kx c)(cl:Calm knd A s)(hb:mV knd)(eB:es.size < 4000)
  (qt:(∃ i,i < es.size/\ks i=kx)->Q false s)
  (qf:∀ (h':Heap) (gO:Array (Int×Value)) (Ol:Nat) (t':SetTable),(∀ i,i < es.size->ks i≠kx)->Heap.SameBut a s.heap h'->h'.get? a=some (bS gO Ol t')->Tab t' gO->gO.toList.Perm (es.toList++[(knd.hash kx,.ref c)])->Q true { s with heap:=h' }) :
  wpAny (model prog w) A (setAddHashed a (.ref c) (knd.hash kx)) Q E s:=by
 obtain ⟨N,n1,n2,n3⟩:=S.tab.first (knd.hash kx);have line:10000<=sizeLine:=by rw [sizeLine_eq];decide
 unfold setAddHashed setAddHashedIn;refine wpAny_holding (wpAny_bind (wpAny_setState_of S.obj rfl S.tab.fits ?_));dsimp only;rw [show byScan (.ref c) es=false from rfl];simp only [zw,if_false];refine wpAny_bind ?_;unfold setSearch;have lim:10 * (t.mask + 13) < 100000:=by
  rcases S.tab.mask with h | h | h | h | h | h <;> rw [h] <;> decide
 refine search hr S.obj rfl S.tab S.keys hx cl (λr h f=>?_) n2 n3 n1 (λnf=>?_) 100000 0 none (by omega) (zx _) rfl (λn' h=>absurd h (yg _))
 ·exact wpAny_pure (qt f)
 ·dsimp only;refine wpAny_bind (wpAny_setState_of S.obj rfl S.tab.fits ?_);dsimp only;have m7:7<=t.mask:=by rcases S.tab.mask with h | h | h | h | h | h <;> omega
  have lt:=S.tab.mj;have lU:SetTable.tooFull=λt=>decide (t.fill * 5 ≥ t.mask * 3):=rfl;have tail:∀ tt,(∃ pl,tt={ (t.put (at' t.mask (knd.hash kx) N)).1 with plain:=pl })->wpAny (model prog w) A (do
    storeSet a (SetTable.insertAt es (t.put (at' t.mask (knd.hash kx) N)).2 (knd.hash kx,Value.ref c)) tt
    if (!false && tt.tooFull)=true then do
     setRelay a (SetTable.grown (es.size + 1))
     pure true
    else pure true) Q E s:=by
   rintro tt ⟨pl,rfl⟩;obtain ⟨pt,pd,pm,ps⟩:=S.tab.put (x:=Value.ref c) n2 n3 pl;have pp:=SetTable.insertAt_perm es (t.put (at' t.mask (knd.hash kx) N)).2 (knd.hash kx,Value.ref c);rw [Array.toList_push] at pp;have sz:(SetTable.insertAt es (t.put (at' t.mask (knd.hash kx) N)).2 (knd.hash kx,Value.ref c)).size=es.size + 1:=by
    have:=pp.length_eq;rw [Array.length_toList,zU,Array.length_toList,yr] at this;exact this
   generalize (t.put (at' t.mask (knd.hash kx) N)).1=T1 at pt pd pm ps ⊢;generalize SetTable.insertAt es (t.put (at' t.mask (knd.hash kx) N)).2 (knd.hash kx,Value.ref c)=Pc at pt pp sz ⊢;have fit:({ T1 with plain:=pl }:SetTable).fits Pc.size=true:=by
    unfold SetTable.fits SetTable.fill;dsimp only;rw [ps,pd,sz,pm];simp;omega
   refine wpAny_bind (store S.obj (by omega) λh' sb go=>?_);have full:({ T1 with plain:=pl }:SetTable).tooFull=decide ((es.size + 1) * 5 ≥ t.mask * 3):=by
    unfold SetTable.tooFull SetTable.fill;dsimp only;rw [ps,pd,pm];rfl
   rw [full];by_cases c:(es.size + 1) * 5 ≥ t.mask * 3
   ·rw [decide_eq_true c];simp only [Bool.not_false,Bool.and_self,if_true];obtain ⟨gm,gl,gz⟩:=tM S.tab.mask (by rw [Nat.add_sub_cancel];exact lt) (by omega) c (by omega);obtain ⟨t2,order,er,pr,T2⟩:=pB (t:={ T1 with plain:=pl }) (es:=Pc) rfl gm (by rw [sz];exact gl);refine wpAny_bind ?_;unfold setRelay;refine wpAny_bind (wpAny_setState_of (s:={ s with heap:=h' }) go rfl fit ?_);dsimp only;rw [if_neg (by omega)];refine wpAny_bind ?_;rw [er];show wpAny (model prog w) A (if ((order.filterMap (Pc[·]?)).size != Pc.size)=true then _ else _) _ _ _;have s2:(order.filterMap (Pc[·]?)).size=Pc.size:=by have:=pr.length_eq;rw [Array.length_toList,Array.length_toList] at this;exact this
    rw [if_neg (by rw [s2];simp)];refine wpAny_pure ?_;dsimp only;refine store (s:={ s with heap:=h' }) go (by rw [s2];omega) λh2 sb2 go2=>?_;exact wpAny_pure (qf h2 _ _ _ nf (sb.trans sb2) go2 T2 (pr.trans pp))
   ·rw [decide_eq_false c];simp only [Bool.not_false,yU,zw,if_false];exact wpAny_pure (qf h' _ _ _ nf sb go (pt (by omega)) pp)
  split
  ·refine wpAny_bind (hb _ _ _ _ hx _ _ λv=>tail _ ?_);cases v with
   | true=>exact ⟨(t.put (at' t.mask (knd.hash kx) N)).1.plain,rfl⟩
   | false=>exact ⟨false,rfl⟩
  ·refine wpAny_bind (wpAny_pure (tail _ ⟨(t.put (at' t.mask (knd.hash kx) N)).1.plain,rfl⟩))
end
end bM
namespace bM
open PySem
section
variable {prog:Program}{w:World}{K:Type} [DecidableEq K] {knd:HeapKind prog w K}{A:Around}{E:Value->Shared->Prop}{s:Shared}{a:Addr}
end
section
variable {prog:Program}{w:World}{K:Type} [DecidableEq K] {knd:KeyKind prog w K}
theorem IU {v:Value}(h:carriedByValue v=true)(n:Nat):ofAClassStatement n v=pure false:=by
 cases v with
 | ref a=>cases h
 | _=>cases n <;> rfl
theorem Ka {A:Around}{s:Shared}:Calm (tupleKind knd) A s:=by
 intro k b hk E Q q;have hT:s.TypeIs (.ref b) "tuple" := IsTupleKey.typeIs hk;obtain ⟨o,items,n,ho,hc,hd,hi⟩:=hk;unfold ofAClassStatement;refine wpAny_bind (wpAny_typeOf hT ?_);dsimp only;rw [if_pos (by decide)];refine wpAny_bind (wpAny_pure ?_);simp only [Bool.not_true,zw,if_false];refine wpAny_bind (wpAny_seqItems ho hd ?_);dsimp only;refine wpAny_bind ?_;rw [<-Array.forIn_toList];refine wpAny_forIn_list _ (λrest r s'=>r.1=none/\s'=s/\∀ v∈rest,carriedByValue v=true) _ ?_ ?_ _ _ ⟨rfl,rfl,hi.byValue⟩
 ·rintro v rest r s' ⟨hr,rfl,fH⟩;rw [IU (fH v zo)];refine wpAny_bind (wpAny_pure ?_);simp only [zw,if_false];exact wpAny_pure ⟨rfl,rfl,λu hu=>fH u (zc _ hu)⟩
 ·rintro ⟨r1,r2⟩ s' ⟨hr,rfl,_⟩;simp only at hr;subst hr;exact wpAny_pure q
theorem sO {v:Value}(h:carriedByValue v=true)(n:Nat):∃ c,hashByValue n v=pure c:=by
 cases v with
 | ref a=>cases h
 | _=>cases n <;> exact ⟨_,rfl⟩
theorem vH:mV (tupleKind knd):=by
 intro A s k b hk E Q q;have hT:s.TypeIs (.ref b) "tuple" := IsTupleKey.typeIs hk;obtain ⟨o,items,n,ho,hc,hd,hi⟩:=hk;unfold hashByValue;refine wpAny_bind (wpAny_specialOf hT F.slot_tuple_hash.lookup ?_);dsimp only;refine wpAny_bind (wpAny_seqItems ho hd ?_);dsimp only [Option.getD];refine wpAny_bind ?_;rw [<-Array.forIn_toList];refine wpAny_forIn_list _ (λrest r s'=>r.1=none/\s'=s/\∀ v∈rest,carriedByValue v=true) _ ?_ ?_ _ _ ⟨rfl,rfl,hi.byValue⟩
 ·rintro v rest r s' ⟨hr,rfl,fH⟩;obtain ⟨c,US⟩:=sO (fH v zo) 7;rw [US];refine wpAny_bind (wpAny_pure ?_);cases c with
  | true=>
   simp only [Bool.not_true,zw,if_false];exact wpAny_pure ⟨rfl,rfl,λu hu=>fH u (zc _ hu)⟩
  | false=>
   simp only [Bool.not_false,if_true];exact wpAny_pure (wpAny_pure (q _))
 ·rintro ⟨r1,r2⟩ s' ⟨hr,rfl,_⟩;simp only at hr;subst hr;exact wpAny_pure (q _)
end
end bM
namespace L2
open PySem PySem.Spec PyProof.Rows bM
def Nt (P:Program)(w:World)(a:Addr)(xs:List (Addr×List Int)):HO:=.ext λh=>∃ es ep t,h.get? a=some (bS es ep t)/\Tab t es/\es.toList.Perm (xs.map λx=>(tupleKeyHash (cL P w) (x.2.map Sum.inl),Value.ref x.1))
section
variable {X:Cx}{ai:List (Addr×Obj)}{σ:St}{H:Hp}{s:Shared}{a:Addr}
theorem Nr {P:Program}{w:World}{H:Hp}{h:Heap}{xs:List (Addr×List Int)}{es:Array (Int×Value)}{ep:Nat}{t:SetTable}(ho:h.get? a=some (bS es ep t))(T:Tab t es)(pm:es.toList.Perm (xs.map λx=>(tupleKeyHash (cL P w) (x.2.map Sum.inl),Value.ref x.1))) :
  bA P w H h a (Nt P w a xs):=⟨⟨es,ep,t,ho,T,pm⟩,⟨_,ho⟩,λh1 h2 ⟨es,ep,t,ho,T,pm⟩ k=>⟨es,ep,t,k _ ho,T,pm⟩⟩
theorem Lr (ks:List Int):ks.map V.int=(ks.map Sum.inl).map kV:=by rw [zz];rfl
end
end L2
namespace bM
open PySem PySem.Spec
def Kp (h0 h:Heap):Prop:=∀ b o,h0.get? b=some o->h.get? b=some o
section
variable {prog:Program}{w:World}{K:Type} [DecidableEq K] [Inhabited K] {knd:HeapKind prog w K}
def Holds (knd:HeapKind prog w K)(h:Heap)(a:Addr)(xs:List (Addr×K)):Prop:=∃ es ep t,h.get? a=some (bS es ep t)/\Tab t es/\es.toList.Perm (xs.map λx=>(knd.hash x.2,Value.ref x.1))
theorem Holds.Yj {h:Heap}{a:Addr}{xs:List (Addr×K)}(H:Holds knd h a xs)(hk:∀ x∈xs,knd.is h x.2 x.1):∃ es ep t ks,Rz knd h a es ep t ks/\es.toList.Perm (xs.map λx=>(knd.hash x.2,Value.ref x.1))/\es.size=xs.length/\∀ i,i < es.size->ks i∈xs.map (·.2):=by
 obtain ⟨es,ep,t,ho,T,pm⟩:=H;have ln:es.size=xs.length:=by have:=pm.length_eq;rw [Array.length_toList,zA] at this;exact this
 have pick:∀ i,∃ x:Addr×K,i < es.size->x∈xs/\es[i]?=some (knd.hash x.2,Value.ref x.1):=λi=>by
  by_cases hi:i < es.size
  ·have:=pm.mem_iff.mp (show es[i]∈es.toList from by simp);obtain ⟨x,hx,e⟩:=zX.mp this;exact ⟨x,λ_=>⟨hx,by rw [Array.getElem?_eq_getElem hi,<- e]⟩⟩
  ·exact ⟨(0,default),λz=>absurd z hi⟩
 refine ⟨es,ep,t,λi=>((pick i).choose).2,⟨ho,T,λi hi=>?_⟩,pm,ln,λi hi=>zX.mpr ⟨_,((pick i).choose_spec hi).1,rfl⟩⟩;obtain ⟨h1,h2⟩:=(pick i).choose_spec hi;exact ⟨_,Option.some.inj ((Array.getElem?_eq_getElem hi).symm.trans h2),hk _ h1⟩
theorem Holds.move {h h':Heap}{a:Addr}{xs:List (Addr×K)}(H:Holds knd h a xs)(k:∀ o,h.get? a=some o->h'.get? a=some o):Holds knd h' a xs:=by obtain ⟨es,ep,t,ho,T,pm⟩:=H;exact ⟨es,ep,t,k _ ho,T,pm⟩
section
variable {A:Around}{R:Result->Shared->Prop}{I:Addr}{fp wr:List Addr}{G:Array GenState->Array GenState->Prop}{n:Nat}{P:Nat->Value->Prop}{St:Nat->Shared->Prop} {h0:Heap}{xs:List (Addr×K)}
theorem loop (W:WalksS prog w A.in1 I fp wr G n P St)(S:Addr)(U4:S ∉ fp)(hr:knd.room A.in1)(cl:∀ B (s':Shared),Calm knd B s')(hb:mV knd)(f0:h0.get? S=none)(f1:∀ b∈wr,h0.get? b=none)(QZ:∀ h h' k b,Kp h h'->knd.is h k b->knd.is h' k b)
  (hn:xs.length=n) (eB:n < 4000) (nd:(xs.map (·.2)).Nodup) (hx:∀ x∈xs,knd.is h0 x.2 x.1) (hv:∀ i v,P i v->∃ x,xs[i]?=some x/\v=.ref x.1) :
  ∀ (k i:Nat) (s:Shared),n - i=k->i<=n->St i s->Kp h0 s.heap->Holds knd s.heap S (xs.take i) ->
   (∀ s',Moved (S::wr) G s s'->Holds knd s'.heap S xs->R (.ok (.ret .none)) s')->codeAny (model prog w) A (.builtin "set.update.loop" ⟨[.ref S,.ref I],[]⟩) R s:=by
 have U3:S ∉ wr:=λh=>U4 (W.sub _ h);have sub:∀ b∈wr,b∈S::wr:=λb hb=>zc _ hb;intro k;induction k with
 | zero=>
  intro i s hk hi lT kp hS hR;obtain rfl:i=n:=by omega
  refine codeAny_builtin PyProof.Rows.F.entry_set_update_loop ?_;rw [Around.under_plainId PyProof.Rows.F.plain_set_update_loop _];show wpAny _ A.in1 (pyNext (.ref I) >>= _) _ _ s;refine wpAny_bind (W.done s _ _ lT λs' hm=>?_);show wpAny _ A.in1 (ret Value.none) _ _ s';rw [<-hn,zd] at hS;exact wpAny_pure (hR s' (hm.mono sub) (hS.move λo e=>hm.heap S o U3 e))
 | succ k ih=>
  intro i s hk hi lT kp hS hR;have lt:i < n:=by omega
  refine codeAny_builtin PyProof.Rows.F.entry_set_update_loop ?_;rw [Around.under_plainId PyProof.Rows.F.plain_set_update_loop _];show wpAny _ A.in1 (pyNext (.ref I) >>= _) _ _ s;refine wpAny_bind (W.item i s _ _ lt lT λv s' hP N9 hm=>?_);obtain ⟨x,Q4,rfl⟩:=hv i v hP;have R6:Kp h0 s'.heap:=λb o e=>hm.heap b o (λz=>by rw [f1 b z] at e;cases e) (kp b o e);have MM:Holds knd s'.heap S (xs.take i):=hS.move λo e=>hm.heap S o U3 e;have Q0:∀ y∈xs,knd.is s'.heap y.2 y.1:=λy hy=>QZ _ _ _ _ R6 (hx y hy);obtain ⟨es,ep,t,ks,T,pm,ez,mem⟩:=MM.Yj λy hy=>Q0 y (yt hy);have UA:=zC Q4;show wpAny _ A.in1 (holding [Value.ref x.1] (setAdd S (.ref x.1)) >>= _) _ _ s';refine wpAny_bind (wpAny_holding ?_);unfold setAdd;refine wpAny_holding ?_;refine wpAny_bind (knd.pyHash hr (Q0 x UA) ?_);refine add (s:={ s' with toks:=s'.toks + knd.draws x.2 }) hr ⟨T.obj,T.tab,T.keys⟩ (Q0 x UA) (cl _ _) hb (by rw [ez,zR];omega) (λf=>?_) (λh' gO Ol t' nf sb go T' YE=>?_)
  ·exfalso;obtain ⟨j,hj,e⟩:=f;have m1:=mem j hj;rw [e,xN] at m1;obtain ⟨j',Jt⟩:=yV m1;rw [List.getElem?_take] at Jt;split at Jt
   ·rename_i lt';have e1:(xs.map (·.2))[i]?=some x.2:=by rw [zD,Q4];rfl
    have:=(List.getElem?_inj (zQ.mp Jt).1 nd).mp (Jt.trans e1.symm);omega
   ·cases Jt
  ·have OX:Kp h0 h':=λb o e=>by rw [sb.2 b (λz=>by rw [z,f0] at e;cases e)];exact R6 b o e
   refine wpAny_pure ⟨plainId_quiet PyProof.Rows.F.plain_set_update_loop _,ih (i + 1) _ (by omega) lt (W.frame _ s' _ _ N9 (yj _ _) λb mJ o e=>?_) OX ⟨gO,Ol,t',go,T',?_⟩ λNv LC LN=>?_⟩
   ·rw [sb.2 b (λz=>U4 (by rw [<-z];exact mJ))];exact e
   ·rw [List.take_add_one,Q4,zB];exact YE.trans (pm.append_right _)
   ·refine hR Nv (Moved.trans W.gtrans ((hm.mono sub).then_heap (yj _ _) λb o mJ e=>?_) LC) LN;rw [sb.2 b (λz=>mJ (by rw [z];exact zo))];exact e
end
section
variable {A:Around}{E:Value->Shared->Prop}{s:Shared}{xs:List (Addr×K)}
end
end
end bM
namespace L2
open PySem PySem.Spec PyProof.Rows bM
section
variable {X:Cx}{ai:List (Addr×Obj)}{σ:St}{H:Hp}{s:Shared}{a:Addr}
theorem IQ {xs:List (Addr×List Int)}{aC:List Value}(r:Vals (xs.map λx=>V.ref x.1) aC):aC=xs.map λx=>Value.ref x.1:=by
 induction xs generalizing aC with
 | nil=>cases r;rfl
 | cons x xs ih=>
  cases r with
  | cons r1 r2=>cases r1;rw [zI,ih r2]
theorem JF:cD X (.builtin "len") (λvs H Q=>∃ p xs,vs=[.ref p]/\H p=some (Nt X.prog X.w p xs)/\Q (.int xs.length) H):=by
 intro ai s σ H vs us Q I r h;obtain ⟨p,xs,rfl,hp,q⟩:=h;obtain ⟨u,rfl,ru⟩:=vals1 r;cases ru;obtain ⟨⟨es,ep,t,ho,T,pm⟩,_⟩:=I.bh p _ hp;have ln:es.size=xs.length:=by have:=pm.length_eq;rw [Array.length_toList,zA] at this;exact this
 have:es.size < 2 ^ 63:=Nat.lt_of_le_of_lt T.room (by rcases T.mask with h | h | h | h | h | h <;> rw [h] <;> decide);refine call_len_set ho ⟨rfl,rfl,rfl⟩ rfl T.fits (by omega) ⟨.int xs.length,H,I.tok _,⟨s.toks + 1,by rw [ln]⟩,q⟩
end
end L2
namespace L2
open PySem PySem.Spec PyProof.Rows
section
variable {X:Cx}
def oV:Option Int->V
 | none=>.bF
 | some i=>.int i
theorem all_range {n:Nat}{e:Nat->Bool}{b:Bool}(h:(∀ j,j < n->e j=true)↔b=true):(List.range n).all e=b:=by
 cases b with
 | true=>rw [yH];intro j hj;exact h.mpr rfl j (yK.mp hj)
 | false=>
  cases c:(List.range n).all e with
  | false=>rfl
  | true=>exact absurd (h.mp λj hj=>yH.mp c j (yK.mpr hj)) (by simp)
end
end L2
namespace Sm
open PySem L2 aY
theorem wz {H:Hp}{l:Addr}{xs:List V}(h:H l=some (.tup xs)):fF H (.ref l)=some "tuple" := by simp only [fF,h]
theorem qB {H H':Hp}{x:V}{t:String}(s:ay H H')(h:fF H x=some t):fF H' x=some t:=by
 cases x with
 | ref a=>
  unfold fF at h ⊢;dsimp only at h ⊢;cases e:H a with
  | none=>rw [e] at h;simp at h
  | some o=>rw [e] at h;rw [s a o e];exact h
 | _=>exact h
theorem qK {n k:Nat}(h:k < n):tE n (k:Int)=some k:=by unfold tE;rw [if_pos (by omega),if_pos (by omega)];simp
end Sm
namespace L2
open PySem PySem.Spec PyProof.Rows
theorem uK {α:Type}(l:List α):∀ n,n<=l.length->(List.range n).filterMap (λk=>l[k]?)=l.take n
 | 0,_=>by simp
 | n + 1,h=>by
  have hn:n < l.length:=h;rw [List.range_succ,List.filterMap_append,uK l n (by omega),List.take_add_one];simp [hn]
theorem rz {α β:Type}{f g:α->Option β}:∀ {l:List α},(∀ x∈l,f x=g x)->l.filterMap f=l.filterMap g
 | [],_=>rfl
 | x::l,h=>by
  rw [xE,xE,h x (.head _),rz λy hy=>h y (.tail _ hy)]
theorem KJ {α:Type}(l:List α):((List.range l.length).map λk:Nat=>((l.length:Int) - 1 + -1 * (k:Int)).toNat).filterMap (λj=>l.toArray[j]?)=l.reverse:=by
 rw [List.filterMap_map];have h:=uK l.reverse l.length (by simp);rw [show l.reverse.take l.length=l.reverse from by rw [<-List.length_reverse];exact zd] at h;rw [<-h];refine rz λk hk=>?_;have ja:=yK.mp hk;have e:((l.length:Int) - 1 + -1 * (k:Int)).toNat=l.length - 1 - k:=by omega
 show l.toArray[((l.length:Int) - 1 + -1 * (k:Int)).toNat]?=_;rw [e,List.getElem?_reverse ja];simp
theorem lP (aC:List Value):slicePick aC.toArray none none (some (-1))=aC.reverse.toArray:=by
 unfold slicePick;have e:sliceBounds none none (some (-1)) aC.toArray.size=((aC.length:Int) - 1,-1,-1):=by
  unfold sliceBounds;simp
 rw [e];have r:sliceRange ((aC.length:Int) - 1) (-1) (-1)=(List.range aC.length).map λk:Nat=>((aC.length:Int) - 1 + -1 * (k:Int)).toNat:=by
  unfold sliceRange;have c:(if (-1:Int) > 0 then (if (aC.length:Int) - 1 < -1 then (-1 - ((aC.length:Int) - 1) + -1 - 1) / -1 else 0) else (if (aC.length:Int) - 1 > -1 then ((aC.length:Int) - 1 - -1 - -1 - 1) / (- -1) else 0))=(aC.length:Int):=by
   rw [if_neg (by decide)];have e1:(- -1:Int)=1:=by decide
   rw [e1,Int.ediv_one];split <;> omega
  simp only [c];simp
 rw [r];exact congrArg List.toArray (KJ aC)
section
variable {X:Cx}{e:Expr}{te:TE} {pos p2 p3 p4:Pos}{j:Nat}
def Sx (K:PySem.W.Frag)(te:TE):TE:=fun σ H Q=>te σ H λx H1=>∃ a xs,x=.ref a/\aB K H1 a xs/\∀ p,H1 p=none->Q (.ref p) (upd H1 p (.lst xs.reverse))
theorem NN {K:PySem.W.Frag}(hK:X.K=K)(he:PE X e te):PE X (.Subscript e (.Slice none none (some (.UnaryOp .USub (.Constant (.int 1) j p4) p3)) p2) pos) (Sx K te):=by subst hK;intro ai s σ H Q I h;refine Subscript_ (aZ (he ai s σ H _ I h) λv s1 ⟨x,H1,I1,r1,q1⟩=>?_);have st:PO X (some (.UnaryOp .USub (.Constant (.int 1) j p4) p3)) (oR (Sw (rU λi=>.int (-i)) (tC (.int 1)))):=qX (pL jN xS);refine wpAny_Slice ?_;rw [evalPart_none];refine wpAny_pure (wpAny_pure ?_);refine aZ (st ai s1 σ H1 (λo H'=>o=some (-1)/\H'=H1) I1 ⟨1,rfl,-1,rfl,rfl,rfl⟩) λvs s3 h3=>?_;obtain ⟨o,H',I3,ps,rfl,rfl⟩:=h3;have I4:Inv X ai σ H' { s3 with heap:=s3.heap.push { cls:=.type "slice", data:=.fields #[.none,.none,vs] } }:=I3.kept (t':=s3.toks) λb ob q=>Heap.get?_push_of_some _ q;obtain ⟨a,xs,rfl,hx,q⟩:=q1;cases r1;obtain ⟨aC,r,ht,hz⟩:=I4.list hx;have hlen:=r.length;show wpAny (model X.prog X.w) X.A (subscriptTail e (.Slice none none (some (.UnaryOp .USub (.Constant (.int 1) j p4) p3)) p2) (.ref a) (.ref s3.heap.objs.size)) (EP X ai σ Q) X.xe { s3 with heap:=s3.heap.push { cls:=.type "slice", data:=.fields #[.none,.none,vs] } };refine tail_any (ops:=[.ref a,.ref s3.heap.objs.size]) ht.isList.typeIs slot_list_getitem.lookup ?_ (by with_unfolding_all rfl);refine wpAny_getItem_list_slice ht.isList (Heap.IsSliceOf.new ..) .none .none ps (by simp) ?_ (by rw [zf] <;> omega);rw [lP];refine ⟨.ref _,_,I4.laid (t':=s3.toks) (o:=.lst xs.reverse) (λb ob q=>Heap.get?_push_of_some _ q) (zJ _) ?_,rfl,q _ (I4.bh.fresh (zJ _))⟩;exact ⟨by rw [List.length_reverse];exact hz,_,0,r.reverse,Heap.get?_push_size _ rfl⟩
end
end L2
namespace Sm
open PySem L2 aY
abbrev Fn:=Nat->Option Int
def put (f:Fn)(k:Nat)(x:Option Int):Fn:=λi=>if i=k then x else f i
theorem KP {f:Fn}{k:Nat}{x:Option Int}:put f k x k=x:=by unfold put;rw [if_pos rfl]
theorem KQ {f:Fn}{k i:Nat}{x:Option Int}(h:i≠k):put f k x i=f i:=by unfold put;rw [if_neg h]
def sY (k:Nat)(x:Int):Fn:=λi=>if i=k then some x else none
def below (o:Option Int)(t:Int):Bool:=match o with
 | some y=>decide (y < t)
 | none=>false
theorem JG {o:Option Int}{t:Int}:below o t=true↔∃ y,o=some y/\y < t:=by cases o <;> simp [below]
def X7 (o:Option Int)(t:Int):Bool:=match o with
 | some y=>decide (y<=t)
 | none=>false
structure W3 where
 g:Nat
 o:Nat
 t:Int
def two (m:M4):List W3:=[⟨m.lo.toNat,m.hi.toNat,m.t⟩,⟨m.hi.toNat,m.lo.toNat,m.t⟩]
def jh (ms:List M4):List W3:=ms.flatMap two
def kQ (st:Fn)(x:W3):Fn:=if st x.o=none/\below (st x.g) x.t=true then put st x.o (some x.t) else st
def fwd (ms:List M4)(st:Fn):Fn:=(jh ms).foldl kQ st
theorem tO {st:Fn}{x:W3}{i:Nat}{y:Int}(h:st i=some y):kQ st x i=some y:=by
 unfold kQ;split
 ·rename_i c;by_cases e:i=x.o
  ·rw [e,c.1] at h;cases h
  ·rw [KQ e];exact h
 ·exact h
def rep (n:Nat)(f:Fn):List (Option Int):=(List.range n).map f
structure W4 where
 n:Nat
 w:W3
end Sm
namespace L2
open PySem PySem.Spec PyProof.Rows
section
variable {n:Nat}{caps:List Nat}{g:TG}{tc:TT}{te:TE}{σ:St}{H:Hp}{Qf:Addr->Hp->List V->Prop}
theorem fE {lo:Int}{m:Nat}(Pv:Nat->St->List V->Hp->Prop)(h0:Pv 0 (dG n caps σ) [] H)(hn:m<=1000)(hl:∀ i τ acc H,Pv i τ acc H->acc.length<=i)
  (hs:∀ i τ acc H (C:St->List V->Hp->Prop),i < m->Pv i τ acc H->(∀ τ acc H,Pv (i + 1) τ acc H->C τ acc H)->g (.int (lo + i)) τ H fun bu H2=>tc bu H2 λb H3=>if b=true then te bu H3 λy H4=>C bu (acc++[y]) H4 else C bu acc H3)
  (hd:∀ τ acc H,Pv m τ acc H->∀ p,H p=none->Qf p H acc) :
  ∃ W:Nat->Nat->St->List V->Hp->Prop,(∃ m,W 0 m (dG n caps σ) [] H)/\∀ i m' τ acc H,W i m' τ acc H ->
   ((t9 lo m).stop i H/\acc.length<=sizeLine/\∀ p,H p=none->Qf p H acc) \/
   ((t9 lo m).go i H/\acc.length < sizeLine/\∀ x H',(t9 lo m).oA i H x H'->g x τ H' fun bu H2=>tc bu H2 λb H3=>if b=true then te bu H3 λy H4=>∃ Le,Le < m'/\W (i + 1) Le bu (acc++[y]) H4 else ∃ Le,Le < m'/\W (i + 1) Le bu acc H3):=
 iN (J:=t9 lo m) Pv m h0 hn hl (λi τ acc H hi p=>hi) (fun τ acc H p=>zJ _)
  (λi τ acc H C hi p c x H' y=>by obtain ⟨e1,e2⟩:=y;subst e1;subst e2;exact hs i τ acc _ C hi p c) hd
end
end L2
namespace Sm
open PySem L2 aY
def run (ws:List W3)(st:Fn):Fn:=ws.foldl kQ st
theorem jX:∀ {ws:List W3}{st:Fn}{i:Nat}{y:Int},st i=some y->run ws st i=some y
 | [],_,_,_,h=>h
 | w::ws,st,i,y,h=>jX (ws:=ws) (tO h)
theorem pA:∀ {ws:List W3}{st:Fn}{i:Nat}{t:Int},run ws st i=some t->st i=none->∃ x∈ws,x.o=i/\x.t=t/\∃ y,run ws st x.g=some y/\y < t
 | [],st,i,t,h,h0=>by
  have:st i=some t:=h;rw [h0] at this;cases this
 | w::ws,st,i,t,h,h0=>by
  have h':run ws (kQ st w) i=some t:=h;cases e:kQ st w i with
  | none=>
   obtain ⟨x,hx,a,b,y,hy,lt⟩:=pA h' e;exact ⟨x,.tail _ hx,a,b,y,hy,lt⟩
  | some z=>
   have z':=jX (ws:=ws) e;rw [h'] at z';cases z';unfold kQ at e;split at e
   ·rename_i c;by_cases io:i=w.o
    ·subst io;rw [KP] at e;cases e;obtain ⟨y,hy,lt⟩:=JG.mp c.2;exact ⟨w,.head _,rfl,rfl,y,jX (ws:=w::ws) hy,lt⟩
    ·rw [KQ io,h0] at e;cases e
   ·rw [h0] at e;cases e
end Sm
namespace L2
open PySem PySem.Spec PyProof.Rows
section
variable {X:Cx}{ai:List (Addr×Obj)}{σ:St}{H:Hp}{s:Shared}
theorem Inv.keptAll {m:Str->Option Value}{h':Heap}{tk:Nat}(I:Inv X ai σ H s)(F0:Fr X.base X.env.locals s.heap m)(F:Fr X.base X.env.locals h' m)
  (N:News X.base X.env.locals h' (gh X.base s.heap X.env.locals)):Inv X ai σ H { s with heap:=h',toks:=tk }:=by
 have keep:∀ b o,b≠X.env.locals->s.heap.get? b=some o->h'.get? b=some o:=λb o hb e=>by
  cases q:X.base.get? b with
  | some u=>
   have:=I.bk b u q;rw [e] at this;cases this;exact F.keep b _ q
  | none=>exact (N (b,o) (dZ hb q e)).1
 refine I.step (g':=s.gens) (t':=tk) (d':=s.drawn) (ch:=[]) (λ_ z=>nomatch z) (λb o hb _ _ e _=>keep b o hb e) (λb o hb _ _ e _=>⟨o.slots,keep b o hb e⟩) (λb o _ e n=>n) (λb o _ e=>?_)
  (λb ys e=>e) (λb o u e=>e) (λb ps e=>⟨#[],by rw [e,Array.append_empty]⟩) (λm' hm=>?_) (λb u e=>?_) I.bare
 ·by_cases hb:b=X.env.locals
  ·obtain ⟨o',_,_,q,_⟩:=F.ns;exact ⟨o',by rw [hb];exact q⟩
  ·exact ⟨o,keep b o hb e⟩
 ·obtain ⟨o1,Pc,ep1,e1,d1,k1,f1⟩:=hm;obtain ⟨o2,es2,ep2,e2,d2,k2,f2⟩:=F0.ns;rw [e1] at e2;cases e2;rw [d1] at d2;cases d2;obtain ⟨o3,es3,ep3,e3,d3,k3,f3⟩:=F.ns;exact ⟨o3,es3,ep3,e3,d3,k3,λname=>(f3 name).trans ((f2 name).symm.trans (f1 name))⟩
 ·refine (I.bh b u e).gG (λc v hc q=>keep c v (λz=>?_) q) (λc q=>q) λc ys q=>q;rcases hc with rfl | hc
  ·rw [z,I.free] at e;cases e
  ·rw [z,I.free] at hc;cases hc
theorem rK:∀ {bs:List Bool}{us:List Value},Vals (bs.map V.bl) us->LSm.BoolsAre us bs
 | [],us,r=>by cases r;exact .nil
 | b::bs,us,r=>by
  cases r with
  | cons x y=>
   cases x;exact .cons b (rK y)
theorem qp {K:PySem.W.Frag}(hK:X.K=K)(hc:X.calm=true):cD X (.builtin "all") (λxs H Q=>∃ p,∃ bs:List Bool,xs=[.ref p]/\aB K H p (bs.map V.bl)/\Q (.bl (bs.all id)) H):=by subst hK;intro ai s σ H xs us Q I r h;obtain ⟨p,bs,rfl,hq,q⟩:=h;obtain ⟨u,rfl,rx⟩:=vals1 r;cases rx;obtain ⟨aC,r',pl,hz⟩:=I.list hq;obtain ⟨m,F⟩:=I.fr;exact LSm.all_bools F (pV (g:=X.base) (h:=s.heap)) (I.ok.hd hc) pl.isList (rK r') λh' tk F' N'=>⟨.bl _,H,I.keptAll F F' N',rfl,q⟩
end
end L2
namespace Sm
open PySem L2 aY
end Sm
namespace L2
open PySem PySem.Spec PyProof.Rows
section
variable {X:Cx}
theorem kj (hu:X.A.units + 64 < cLine):gE X (compareOp .Eq) (λx y H Q=>∃ a b xs,x=.ref a/\y=.ref b/\aB X.K H a xs/\aB X.K H b []/\Q (.bl xs.isEmpty) H):=by
 intro ai s σ H x y v u Q I rx ry h;obtain ⟨a,b,xs,rfl,rfl,ha,hb,q⟩:=h;cases rx;cases ry;obtain ⟨aC,r,p,_⟩:=I.list ha;obtain ⟨bR,r2,p2,_⟩:=I.list hb;cases r2;cases r with
 | nil=>exact SeqAt.RcAt.lists (e:=λ_=>true) p.isList p2.isList rfl (by omega) (λj h1=>absurd h1 (yg _)) _ _ _ _ ⟨.bl _,H,I,rfl,q⟩
 | cons r1 rr=>exact SeqAt.RcAt.lists_lengths p.isList p2.isList (by simp) (by omega) _ _ _ _ ⟨.bl _,H,I,rfl,q⟩
end
end L2
namespace Sm
open PySem L2 aY
end Sm
namespace L2
open PySem PySem.Spec PyProof.Rows
def Ou (K:PySem.W.Frag)(a b:Addr):It:=
 ⟨λi H=>∃ xs ys x y,aB K H a xs/\aB K H b ys/\xs[i]?=some x/\ys[i]?=some y,λi H v H'=>∃ p x y,H p=none/\v=.ref p/\H'=upd H p (.tup [x,y])/\∀ xs ys,aB K H a xs->aB K H b ys->xs[i]?=some x/\ys[i]?=some y,
  λi H=>∃ xs ys,aB K H a xs/\aB K H b ys/\(xs.length<=i\/ys.length<=i)⟩
theorem vF {P:Program}{w:World}{K:PySem.W.Frag}{es:List Expr}{k:Nat}{pos:Pos}(l1 l2 z TI TO i1 i2:Addr)(ap:ZipApart z TI TO i1 i2 l1 l2) :
  Turn P w K (.Tuple es k pos) (Ou K l1 l2) [z,TI,TO,i1,i2] z (λi h=>IsZip h z TI TO .none/\IsPair h TI (.ref i1) (.ref i2)/\(∃ a b,IsPair h TO a b)/\h.IsListIter i1 l1 i/\h.IsListIter i2 l2 i) where
 mem:=by simp
 obj:=λi h st b hb=>by
  obtain ⟨hz,eH,⟨a,c,fB⟩,⟨o1,g1,c1,d1⟩,⟨o2,g2,c2,d2⟩⟩:=st;simp only [zG,zK,or_false] at hb;rcases hb with e | e | e | e | e <;> subst e
  ·exact ⟨_,hz,λv q=>nomatch q⟩
  ·exact ⟨_,eH,λv q=>nomatch q⟩
  ·exact ⟨_,fB,λv q=>nomatch q⟩
  ·exact ⟨o1,g1,λv q=>by rw [d1] at q;cases q⟩
  ·exact ⟨o2,g2,λv q=>by rw [d2] at q;cases q⟩
 keep:=λi h h' st q=>by
  obtain ⟨hz,eH,⟨a,c,fB⟩,⟨o1,g1,r1⟩,⟨o2,g2,r2⟩⟩:=st;exact ⟨q z (by simp) _ hz,q TI (by simp) _ eH,⟨a,c,q TO (by simp) _ fB⟩,⟨o1,q i1 (by simp) o1 g1,r1⟩,⟨o2,q i2 (by simp) o2 g2,r2⟩⟩
 item:=by
  intro X hP hw hK hc i ai s σ H E I hf st hg;subst hP hw hK;obtain ⟨xs,ys,x,y,mF,mE,hx,hy⟩:=hg;obtain ⟨di,rT,p1,gA⟩:=I.list mF;obtain ⟨bR,rS,p2,nO⟩:=I.list mE;obtain ⟨u,hu,ru⟩:=rT.get hx;obtain ⟨v,hv,rv⟩:=rS.get hy;obtain ⟨hZ,eH,⟨a0,c0,fB⟩,mH,kL⟩:=st;have fp:=λb hb=>hf b hb;have lt:∀ b,b∈[z,TI,TO,i1,i2]->b < s.heap.objs.size:=λb hb=>by
   simp only [zG,zK,or_false] at hb;rcases hb with e | e | e | e | e <;> subst e
   ·exact Heap.lt_size hZ
   ·exact Heap.lt_size eH
   ·exact Heap.lt_size fB
   ·exact let ⟨_,z,_⟩:=mH;Heap.lt_size z
   ·exact let ⟨_,z,_⟩:=kL;Heap.lt_size z
  refine wpAny_pyNext_zip_item ap hZ eH fB mH kL p1.isList p2.isList (x:=u) (y:=v) (by simpa using hu) (by simpa using hv) λh1 U1 LM aal aak hT Wm hk=>?_;refine ⟨_,rfl,?_⟩;refine wpAny_letOwnedTupleGo_zip U1 λh2 U0 qw=>?_;have eG:Heap.SameBut z h1 h2:=qw;have bG:∀ b o,b ∉ [z,TO,i1,i2]->s.heap.get? b=some o->h2.get? b=some o:=λb o hb q=>by
   simp only [zG,zK,or_false,not_or] at hb;exact eG.extBut b o hb.1 (hk b o hb.1 hb.2.1 hb.2.2.1 hb.2.2.2 q)
  have Pa:h2.get? s.heap.objs.size=some { cls:=.type "tuple", data:=.seq #[u,v] }:=eG.extBut _ _ (yf (lt z (by simp))) hT;have nT:H s.heap.objs.size=none:=I.bh.fresh (zJ _);have sub:∀ b,b∈[z,TO,i1,i2]->b∈[z,TI,TO,i1,i2]:=λb hb=>by
   simp only [zG,zK,or_false] at hb ⊢;rcases hb with e | e | e | e <;> simp [e]
  refine ⟨.ref s.heap.objs.size,upd H s.heap.objs.size (.tup [x,y]),?_,rfl,⟨_,x,y,nT,rfl,rfl,λys' zs' h1 h2=>by rw [I.fS h1 mF,I.fS h2 mE];exact ⟨hx,hy⟩⟩,⟨U0,?_,⟨u,v,?_⟩,?_,?_⟩,λb hb=>?_⟩
  ·refine Inv.step (s:=s) (h':=h2) (g':=s.gens) (d':=s.drawn) (t':=s.toks) (ch:=[z,TO,i1,i2]) I (λb hb=>?_) (λb o _ _ hb q _=>bG b o hb q) (λb o _ _ hb q _=>⟨o.slots,bG b o hb q⟩)
    (λb o _ q n=>by rw [xj (zt (Heap.lt_size q))];exact n) (λb o hb q=>⟨o,bG b o hb q⟩)
    (λb ys q=>by rw [xj (xV q nT)];exact q) (λb o v q=>by rw [xj (xV q nT)];exact q) (λb ps q=>⟨#[],by rw [xj (xV q nT),q];simp⟩)
    (λm hm=>by
     obtain ⟨o,gO,ep,q,r⟩:=hm;exact ⟨o,gO,ep,bG _ o (λhb=>(fp _ (sub _ hb)).2.1 rfl) q,r⟩) (λb v' q=>?_) I.bare
   ·obtain ⟨e0,e1,e2,e3,e4,e5⟩:=fp b (sub b hb);exact ⟨e3,e1,e4,e5⟩
   ·by_cases hb:b=s.heap.objs.size
    ·subst hb;rw [xQ] at q;cases q;exact ⟨⟨by show 2<=sizeLine;rw [sizeLine_eq];decide,λob e=>by rw [Pa] at e;cases e;rfl⟩,[u,v],.cons ru (.cons rv .nil),⟨_,Pa,rfl,_,rfl⟩⟩
    ·rw [xj hb] at q;refine (I.bh b v' q).gG (λc ob hc qc=>bG c ob (λhb=>?_) qc) (λc qc=>by rw [xj (xV qc nT)];exact qc) λc ys qc=>by rw [xj (xV qc nT)];exact qc
     have e0:=(fp c (sub c hb)).1;rcases hc with z | z
     ·subst z;exact xV q e0 rfl
     ·exact xV z e0 rfl
  ·exact bG _ _ (by simp only [zG,zK,or_false,not_or];exact ⟨ap.TIz,ap.TITO,ap.TIi1,ap.TIi2⟩) eH
  ·exact eG.extBut _ _ ap.TOz LM
  ·obtain ⟨o,q,r⟩:=aal;exact ⟨o,eG.extBut i1 o ap.i1z q,r⟩
  ·obtain ⟨o,q,r⟩:=aak;exact ⟨o,eG.extBut i2 o ap.i2z q,r⟩
  ·rw [xj (zt (lt b hb))];exact (fp b hb).1
 done:=by
  intro X hP hw hK hc i ai s σ H E I hf st hg;subst hP hw hK;obtain ⟨xs,ys,mF,mE,hx⟩:=hg;obtain ⟨di,rT,p1,gA⟩:=I.list mF;obtain ⟨bR,rS,p2,nO⟩:=I.list mE;obtain ⟨hZ,eH,⟨a0,c0,fB⟩,mH,kL⟩:=st;have l1':=rT.length;have l2':=rS.length;have sub:∀ b,b∈[z,TO,i1,i2]->b∈[z,TI,TO,i1,i2]:=λb hb=>by
   simp only [zG,zK,or_false] at hb ⊢;rcases hb with e | e | e | e <;> simp [e]
  refine wpAny_pyNext_zip_end (I.ok.hd hc) ap hZ eH fB mH kL p1.isList p2.isList (by
   rcases hx with h | h
   ·exact .inl (by simp;omega)
   ·exact .inr (by simp;omega)) λh' hk=>⟨rfl,?_⟩
  have bG:∀ b o,b ∉ [z,TO,i1,i2]->s.heap.get? b=some o->h'.get? b=some o:=λb o hb q=>by
   simp only [zG,zK,or_false,not_or] at hb;exact hk b o hb.1 hb.2.1 hb.2.2.1 hb.2.2.2 q
  refine Inv.step (s:=s) (h':=h') (g':=s.gens) (d':=s.drawn) (t':=s.toks) (ch:=[z,TO,i1,i2]) I (λb hb=>?_) (λb o _ _ hb q _=>bG b o hb q) (λb o _ _ hb q _=>⟨o.slots,bG b o hb q⟩)
    (λb o _ q n=>n) (λb o hb q=>⟨o,bG b o hb q⟩)
    (λb ys q=>q) (λb o v q=>q) (λb ps q=>⟨#[],by rw [q];simp⟩)
    (λm hm=>by
     obtain ⟨o,gO,ep,q,r⟩:=hm;exact ⟨o,gO,ep,bG _ o (λhb=>(hf _ (sub _ hb)).2.1 rfl) q,r⟩) (λb v' q=>?_) I.bare
  ·obtain ⟨e0,e1,e2,e3,e4,e5⟩:=hf b (sub b hb);exact ⟨e3,e1,e4,e5⟩
  ·refine (I.bh b v' q).gG (λc ob hc qc=>bG c ob (λhb=>?_) qc) (λc qc=>qc) λc ys qc=>qc;have e0:=(hf c (sub c hb)).1;rcases hc with z | z
   ·subst z;exact xV q e0 rfl
   ·exact xV z e0 rfl
 self:=λ_ _ _ _ _ st h=>wpAny_pyIter_zip st.1 h
def Us (K:PySem.W.Frag)(ta:TA):TI:=fun σ H R=>ta σ H λvs H1=>∃ a b,vs=[.ref a,.ref b]/\(∃ xs,aB K H1 a xs)/\(∃ ys,aB K H1 b ys)/\R (Ou K a b) H1
theorem iu {X:Cx}{a b:Expr}{ta:TA}{p pos KS:Pos}{es:List Expr}{k:Nat}{K:PySem.W.Frag}(hK:X.K=K)(hg:Gl X "zip")(hm:X.mg "zip" = none)(ha:PA X [a,b] ta)
  (hs:starEach [a,b] X.env=(false,eval a X.env)::starEach [b] X.env:=by rfl) (qw:starEach [b] X.env=[(false,eval b X.env)]:=by rfl) :
  PI X (.Tuple es k KS) (.Call (.Name "zip" p) [a,b] [] pos) (Us K ta):=by
 subst hK;intro ai s σ H R I h;refine Call_ (fT I hg hm boot_zip (yT (aZ (ha pos ai s σ H _ I h) λus s1 ⟨vs,H1,I1,r1,q1⟩=>?_) (by rw [hs,qw]) (by rw [qw];rfl)));obtain ⟨l1,l2,e,⟨xs,mF⟩,⟨ys,mE⟩,q⟩:=q1;subst e;cases r1 with
 | cons r rr=>
  cases rr with
  | cons r' rr=>
   cases rr;cases r;cases r';obtain ⟨di,rT,p1,gA⟩:=I1.list mF;obtain ⟨bR,rS,p2,nO⟩:=I1.list mE;have NX:l1 < s1.heap.objs.size:=let ⟨_,z,_⟩:=p1.isList;Heap.lt_size z;have NW:l2 < s1.heap.objs.size:=let ⟨_,z,_⟩:=p2.isList;Heap.lt_size z;refine call_zip_2 p1.isList p2.isList λh' hZ eH fB mH kL Wm hk=>?_;refine wpAny_pyIter_zip hZ ?_;have I2:Inv X ai σ H1 { s1 with heap:=h' }:=I1.kept (t':=s1.toks) hk;refine ⟨s1.heap.objs.size + 4,[s1.heap.objs.size + 4,s1.heap.objs.size + 2,s1.heap.objs.size + 3,s1.heap.objs.size,s1.heap.objs.size + 1],_,_,H1,rfl,I2,vF l1 l2 _ _ _ _ _ (zipApart_new NX NW),⟨hZ,eH,⟨_,_,fB⟩,mH,kL⟩,λb hb=>?_,q⟩;have mJ:s1.heap.objs.size<=b:=by
    simp only [zG,zK,or_false] at hb;rcases hb with e | e | e | e | e <;> rw [e] <;> first | exact zJ _ | exact yj _ _
   exact I1.rj mJ (I1.bh.fresh mJ)
theorem rq {K:PySem.W.Frag}{a b:Addr}{xs ys:List V}{g:TG}{tb:TS}{D:Ends}{σ:St}{H:Hp}(el:xs.length=ys.length)(Pv:Nat->St->Hp->Prop)(h0:Pv 0 σ H)(hl:∀ i σ H,i<=xs.length->Pv i σ H->aB K H a xs/\aB K H b ys)
  (hs:∀ i x y q σ H,xs[i]?=some x->ys[i]?=some y->H q=none->Pv i σ H->g (.ref q) σ (upd H q (.tup [x,y])) fun lJ H2=>tb (D.lp (Pv (i + 1))) lJ H2) (hd:∀ σ H,Pv xs.length σ H->D.nx σ H) :
  ∃ W:Nat->Nat->St->Hp->Prop,(∃ m,W 0 m σ H)/\∀ i m σ H,W i m σ H ->
   ((Ou K a b).stop i H/\D.nx σ H)\/((Ou K a b).go i H/\∃ N:St->Hp->Prop,(∀ bK H',N bK H'->∃ m',m' < m/\W (i + 1) m' bK H')/\∀ x H',(Ou K a b).oA i H x H'->g x σ H' fun lJ H2=>tb (D.lp N) lJ H2):=by
 refine ⟨λi m σ H=>m=xs.length - i/\i<=xs.length/\Pv i σ H,⟨xs.length,by simp,zx _,h0⟩,?_⟩;rintro i m σ H ⟨rfl,hi,p⟩;obtain ⟨q1,q2⟩:=hl i σ H hi p;by_cases gc:i < xs.length
 ·refine .inr ⟨⟨xs,ys,xs[i],ys[i]'(by omega),q1,q2,by simp [gc],by simp [<-el,gc]⟩,Pv (i + 1),fun bK H' p'=>⟨xs.length - (i + 1),by omega,rfl,gc,p'⟩,λx H' y=>?_⟩;obtain ⟨q',x',y',hq,e1,e2,y⟩:=y;subst e1;subst e2;exact hs i x' y' q' σ _ (y xs ys q1 q2).1 (y xs ys q1 q2).2 hq p
 ·have e:i=xs.length:=by omega
  subst e;exact .inl ⟨⟨xs,ys,q1,q2,.inl (zJ _)⟩,hd σ H p⟩
end L2
namespace Sm
open PySem L2 aY
theorem Mg (xs:List V)(k:Nat):aN xs none (some (k:Int))=xs.take k:=by
 unfold aN;rw [HT.uC];show (xs.drop 0).take (min k xs.length - 0)=xs.take k;rw [List.drop_zero,Nat.sub_zero];by_cases h:k<=xs.length
 ·rw [Nat.min_eq_left h]
 ·rw [Nat.min_eq_right (by omega),yY (zJ _),yY (by omega)]
end Sm
namespace L2
open PySem
theorem gn {c:Bool}{A:Prop}{D:Ends}{σ:St}{H:Hp}(Pre:St->Hp->Prop)(k:∀ σ H,Pre σ H->D.nx σ H)(h1:c=true->(∀ σ H,Pre σ H->D.nx σ H)->A)(h2:c=false->Pre σ H):if c=true then A else jP D σ H:=by
 cases c with
 | true=>exact h1 rfl k
 | false=>exact k _ _ (h2 rfl)
end L2
namespace Sm
open PySem L2 aY
theorem Go.free {p l:Addr}{H H':Hp}(g:Go p H H')(h:H' l=none)(np:l≠p):H l=none:=by
 cases e:H l with
 | none=>rfl
 | some u=>rw [g.1 l u np e] at h;cases h
def Uj (row F:Fn)(x:W3):Fn:=if below (row x.g) x.t=true/\X7 (F x.o) x.t=false then put F x.o (some x.t) else F
def jac (ws:List W3)(row:Fn):Fn:=ws.foldl (Uj row) row
def Jl (ws:List W3)(row:Fn):Nat->Fn
 | 0=>row
 | k + 1=>jac ws (Jl ws row k)
def rk (ws:List W3):Option Int->Nat
 | none=>ws.length + 1
 | some y=>ws.countP λx=>decide (x.t < y)
end Sm
namespace L2
open PySem PySem.Spec PyProof.Rows
open AutoSeq1 (wpAny_loadPart')
section
variable {X:Cx}
end
end L2
namespace Sm
open PySem L2 aY
def Lh (H:Hp)(x:V)(r:Option (List V)):Prop:=
 (∃ t,fF H x=some t/\t ≠ "list" /\ r=none)\/(∃ a xs,x=.ref a/\H a=some (.lst xs)/\(∀ e∈xs,∃ t,fF H e=some t)/\xs.length<=1000/\r=some xs)
end Sm
namespace L2
open PySem
end L2
namespace Sm
open PySem L2
end Sm
namespace Sm
open PySem L2 aY
structure Rows (H0 H:Hp) (ms:List M4) (n k:Nat) (x:Int) (as:List Addr):Prop where
 pos:as≠[]
 eB:as.length<=200000
 at':∀ (i:Nat) (a:Addr),as[i]?=some a->H0 a=none/\H a=some (.lst ((rep n (Jl (jh ms) (sY k x) i)).map oV))
 ne:∀ i,i + 1 < as.length->rep n (Jl (jh ms) (sY k x) (i + 1))≠rep n (Jl (jh ms) (sY k x) i)
 last:rep n (Jl (jh ms) (sY k x) as.length)=rep n (Jl (jh ms) (sY k x) (as.length - 1))
end Sm
namespace L2
open PySem PySem.Spec PyProof.Rows
section
variable {K:PySem.W.Frag}{a:Addr}{xs:List V}{n:Nat}{caps:List Nat}{g:TG}{tc:TT}{te:TE}{σ:St}{H:Hp}{Qf:Addr->Hp->List V->Prop}
theorem Mi {J:It}(Pv:Nat->St->List V->Hp->Prop)(len:Nat)(h0:Pv 0 (dG n caps σ) [] H)(hn:len<=200000)(hl:∀ i τ acc H,Pv i τ acc H->acc.length<=i)
  (hgo:∀ i τ acc H,i < len->Pv i τ acc H->J.go i H) (Ly:∀ τ acc H,Pv len τ acc H->J.stop len H)
  (hs:∀ i τ acc H (C:St->List V->Hp->Prop),i < len->Pv i τ acc H->(∀ τ acc H,Pv (i + 1) τ acc H->C τ acc H)->∀ x H',J.oA i H x H'->g x τ H' fun bu H2=>tc bu H2 λb H3=>if b=true then te bu H3 λy H4=>C bu (acc++[y]) H4 else C bu acc H3)
  (hd:∀ τ acc H,Pv len τ acc H->∀ p,H p=none->Qf p H acc) :
  ∃ W:Nat->Nat->St->List V->Hp->Prop,(∃ m,W 0 m (dG n caps σ) [] H)/\∀ i m τ acc H,W i m τ acc H ->
   (J.stop i H/\acc.length<=sizeLine/\∀ p,H p=none->Qf p H acc) \/
   (J.go i H/\acc.length < sizeLine/\∀ x H',J.oA i H x H'->g x τ H' fun bu H2=>tc bu H2 λb H3=>if b=true then te bu H3 λy H4=>∃ m',m' < m/\W (i + 1) m' bu (acc++[y]) H4 else ∃ m',m' < m/\W (i + 1) m' bu acc H3):=by
 have line:200001<=sizeLine:=by rw [sizeLine_eq];decide
 refine ⟨λi m τ acc H=>m=len - i/\i<=len/\Pv i τ acc H,⟨len,by simp,zx _,h0⟩,?_⟩;rintro i m τ acc H ⟨rfl,hi,p⟩;have q:=hl i τ acc H p;by_cases gc:i < len
 ·exact .inr ⟨hgo i τ acc H gc p,by omega,λx H' y=>hs i τ acc H (fun τ acc H=>∃ m',m' < len - i/\m'=len - (i + 1)/\i + 1<=len/\Pv (i + 1) τ acc H) gc p (fun τ acc H p'=>⟨len - (i + 1),by omega,rfl,gc,p'⟩) x H' y⟩
 ·have e:i=len:=by omega
  subst e;exact .inl ⟨Ly τ acc H p,by omega,hd τ acc H p⟩
end
end L2
namespace Sm
open PySem L2 aY
end Sm
namespace Sm
open PySem L2
end Sm
namespace Sm
open PySem L2 aY
def again (ms:List M4)(day first:Int):Nat->List M4
 | 0=>[]
 | r + 1=>again ms day first r++ms.map (M4.iE ((first + r) * day))
end Sm
namespace L2
open PySem PySem.Spec PyProof.Rows
section
variable {X:Cx}{ai:List (Addr×Obj)}{σ:St}{H:Hp}{s:Shared}
theorem gX {xs:List V}{us:List Value}(r:Vals xs us){j:Nat}(h:j < us.toArray.size):∃ x,xs[j]?=some x/\RelV x us.toArray[j]:=by
 have hl:=r.length;simp only [zf] at h;have a1:j < xs.length:=by omega
 obtain ⟨u,eu,ru⟩:=r.get (i:=j) (x:=xs[j]) (by simp [a1]);have e1:us.toArray[j]=u:=by rw [List.getElem_toArray];exact Option.some.inj ((zF h).symm.trans eu)
 exact ⟨xs[j],by simp [a1],by rw [e1];exact ru⟩
end
def Eqv (K:PySem.W.Frag)(H:Hp):Nat->V->V->Bool->Prop
 | 0,x,y,b=>(x=y/\(∃ a,x=.ref a)/\b=true)\/(cy x=true/\cy y=true/\b=rV x y)
 | n + 1,x,y,b=>(x=y/\(∃ a,x=.ref a)/\b=true)\/(cy x=true/\cy y=true/\b=rV x y)\/∃ (a c:Addr) (xs ys:List V) (e:Nat->Bool),x=.ref a/\y=.ref c/\((aB K H a xs/\aB K H c ys)\/(aX K H a xs/\aX K H c ys))/\(a=c->b=true)/\b=(decide (xs.length=ys.length) && (List.range xs.length).all e)/\∀ (i:Nat) (x y:V),xs[i]?=some x->ys[i]?=some y->Eqv K H n x y (e i)
section
variable {X:Cx}{ai:List (Addr×Obj)}{σ:St}{H:Hp}{s:Shared}
theorem kT {A:Around}{x y:V}{b:Bool}{u v:Value}(h:(x=y/\(∃ a,x=.ref a)/\b=true)\/(cy x=true/\cy y=true/\b=rV x y))(ru:RelV x u)(rv:RelV y v):SeqAt.EqAt A s u v b:=by
 rcases h with ⟨rfl,⟨a,rfl⟩,rfl⟩ | ⟨h1,h2,rfl⟩
 ·cases ru;cases rv;exact SeqAt.EqAt.same _
 ·exact L6 (A:=A) (s:=s) ru rv h1 h2
theorem L3 (I:Inv X ai σ H s):∀ (n:Nat) {A:Around}{x y:V}{b:Bool}{u v:Value},A.units + n < cLine->Eqv X.K H n x y b->RelV x u->RelV y v->SeqAt.EqAt A s u v b:=by
 intro n;induction n with
 | zero=>intro A x y b u v hu h ru rv;exact kT h ru rv
 | succ n ih=>
  intro A x y b u v hu h ru rv;rcases h with h | h | ⟨a,c,xs,ys,e,rfl,rfl,h,hs,hb,hi⟩
  ·exact kT (.inl h) ru rv
  ·exact kT (.inr h) ru rv
  ·cases ru;cases rv;by_cases ne:a=c
   ·rw [hs ne,ne];exact SeqAt.EqAt.same _
   refine SeqAt.EqAt.of_refs ne ?_;have N7:(A.units + 1) + n < cLine:=by omega
   rcases h with ⟨h1,h2⟩ | ⟨h1,h2⟩
   ·obtain ⟨aC,r1,p1,_⟩:=I.list h1;obtain ⟨bR,r2,p2,_⟩:=I.list h2;have l1:=r1.length;have l2:=r2.length;by_cases hl:xs.length=ys.length
    ·have:=SeqAt.RcAt.lists (A:=A) (e:=e) p1.isList p2.isList (by simp;omega) (by omega) λj h1 h2=>by
      obtain ⟨x,ex,rx⟩:=gX r1 h1;obtain ⟨y,ey,ry⟩:=gX r2 h2;exact ih N7 (hi j x y ex ey) rx ry
     rw [hb,decide_eq_true hl,zu,l1];simpa using this
    ·rw [hb,decide_eq_false hl,yR];exact SeqAt.RcAt.lists_lengths (A:=A) p1.isList p2.isList (by simp;omega) (by omega)
   ·obtain ⟨aC,r1,p1,_⟩:=I.tuple h1;obtain ⟨bR,r2,p2,_⟩:=I.tuple h2;have l1:=r1.length;have l2:=r2.length;have:=SeqAt.RcAt.tuples (A:=A) (e:=e) p1 p2 (by omega) λj h1 h2=>by
     obtain ⟨x,ex,rx⟩:=gX r1 h1;obtain ⟨y,ey,ry⟩:=gX r2 h2;exact ih N7 (hi j x y ex ey) rx ry
    by_cases hl:xs.length=ys.length
    ·rw [hb,decide_eq_true hl,zu,l1];have e1:bR.length=aC.length:=by omega
     simpa [e1] using this
    ·rw [hb,decide_eq_false hl,yR];have e1:¬ aC.length=bR.length:=by omega
     have e2:(aC.toArray.size == bR.toArray.size)=false:=by simp [e1]
     rw [e2,yU] at this;exact this
def Yz (K:PySem.W.Frag):R2:=λx y H Q=>∃ (n:Nat) (p:Addr) (rs:List (Addr×Bool)),n<=20/\y=.ref p/\aB K H p (rs.map λr=>V.ref r.1)/\(∀ r∈rs,Eqv K H n (.ref r.1) x r.2)/\Q (.bl (rs.any (·.2))) H
theorem Qy (hu:X.A.units + 64 < cLine):gE X (compareOp .In) (Yz X.K):=by
 intro ai s σ H x y v u Q I rx ry h;obtain ⟨n,p,rs,hn,rfl,hq,hg,q⟩:=h;cases ry;obtain ⟨aC,r,pl,hz⟩:=I.list hq;have back:∀ w∈aC,∃ r∈rs,w=.ref r.1:=λw hw=>by
  obtain ⟨j,hj,rfl⟩:=yn hw;obtain ⟨x0,ex,rx0⟩:=gX r (j:=j) (by simpa using hj);rw [zD] at ex;cases e:rs[j]? with
  | none=>rw [e] at ex;cases ex
  | some a=>
   rw [e] at ex;cases ex;simp only [List.getElem_toArray] at rx0;exact ⟨a,zC e,rx0⟩
 have Va:∀ a∈rs,Value.ref a.1∈aC:=λa ha=>by
  obtain ⟨j,hj,rfl⟩:=yn ha;obtain ⟨u,eu,ru⟩:=r.get (i:=j) (x:=V.ref rs[j].1) (by simp [hj]);cases ru;exact zC eu
 haveI:DecidablePred λu:Value=>∃ r∈rs,u=.ref r.1/\r.2=true:=λ_=>Classical.propDecidable _
 refine SeqAt.in_listAt (λu=>decide (∃ r∈rs,u=.ref r.1/\r.2=true)) pl.isList (λw hw=>?_) ⟨.bl _,H,I,rfl,?_⟩
 ·have hw:w∈aC:=by simpa using hw
  by_cases c:∃ r∈rs,w=.ref r.1/\r.2=true
  ·rw [decide_eq_true c];obtain ⟨r0,m0,rfl,b0⟩:=c;have:=L3 I n (A:=X.A.in1) (by show X.A.units + 1 + n < cLine;omega) (hg r0 m0) (u:=.ref r0.1) rfl rx;rw [b0] at this;exact this
  ·rw [decide_eq_false c];obtain ⟨r0,m0,rfl⟩:=back w hw;have b0:r0.2=false:=by
    cases e:r0.2 with
    | false=>rfl
    | true=>exact absurd ⟨r0,m0,rfl,e⟩ c
   have:=L3 I n (A:=X.A.in1) (by show X.A.units + 1 + n < cLine;omega) (hg r0 m0) (u:=.ref r0.1) rfl rx;rw [b0] at this;exact this
 ·have e:aC.toArray.any (λu=>decide (∃ r∈rs,u=.ref r.1/\r.2=true))=rs.any (·.2):=by
   rw [xG];simp only [List.any_toArray,List.any_eq_true,decide_eq_true_eq];constructor
   ·rintro ⟨u,_,r0,m0,_,b0⟩;exact ⟨r0,m0,b0⟩
   ·rintro ⟨r0,m0,b0⟩;exact ⟨_,Va r0 m0,r0,m0,rfl,b0⟩
  rw [e];exact q
end
theorem Eqv.rows {α:Type}[DecidableEq α]{f:α->V}(hf:∀ x,cy (f x)=true)(he:∀ x y,rV (f x) (f y)=decide (x=y)){K:PySem.W.Frag}{H:Hp}{n:Nat}{a c:Addr}{xs ys:List α}(h:(H a=some (.lst (xs.map f))/\H c=some (.lst (ys.map f)))\/(H a=some (.tup (xs.map f))/\H c=some (.tup (ys.map f)))):Eqv K H (n + 1) (.ref a) (.ref c) (decide (xs=ys)):=by
 have fi:∀ x y,f x=f y->x=y:=λx y e=>by
  have:=he x y;rw [e,he y y] at this;simpa using this.symm
 have inj:∀ {l m:List α},l.map f=m.map f->l=m:=λ{l m} e=>List.map_inj_right (λx y=>fi x y) |>.mp e;refine .inr (.inr ⟨a,c,xs.map f,ys.map f,λi=>decide (xs[i]?=ys[i]?),rfl,rfl,h.imp (λh=>⟨aB.of h.1,aB.of h.2⟩) (λh=>⟨aX.of h.1,aX.of h.2⟩),λe=>?_,?_,λi x y hx hy=>?_⟩)
 ·subst e;rw [decide_eq_true_eq];rcases h with ⟨h1,h2⟩ | ⟨h1,h2⟩
  ·rw [h1] at h2;injection h2 with h2;injection h2 with h2;exact inj h2
  ·rw [h1] at h2;injection h2 with h2;injection h2 with h2;exact inj h2
 ·rw [zA,zA];by_cases hl:xs.length=ys.length
  ·rw [decide_eq_true hl,zu]
   symm
   refine all_range ?_;simp only [decide_eq_true_eq];constructor
   ·intro h;apply yu;intro j;by_cases hj:j < xs.length
    ·exact h j hj
    ·rw [yF (by omega),yF (by omega)]
   ·rintro rfl j _;rfl
  ·rw [decide_eq_false hl,yR,decide_eq_false_iff_not];rintro rfl;exact hl rfl
 ·rw [zD] at hx hy;cases e1:xs[i]? with
  | none=>rw [e1] at hx;cases hx
  | some p=>
   cases e2:ys[i]? with
   | none=>rw [e2] at hy;cases hy
   | some q=>
    rw [e1] at hx;rw [e2] at hy;cases hx;cases hy;have key:cy (f p)=true/\cy (f q)=true/\decide (some p=some q)=rV (f p) (f q):=⟨hf p,hf q,by
     rw [he];simp⟩
    cases n with
    | zero=>exact .inr (by simpa only [e1,e2] using key)
    | succ n=>exact .inr (.inl (by simpa only [e1,e2] using key))
theorem Oj (x y:Int):rV (.int x) (.int y)=decide (x=y):=rfl
section
variable {X:Cx}
theorem i9:∀ {ns:List Int}{aC:List Value},Vals (ns.map V.int) aC->∃ xs:List (Int×Tok),aC=xs.map (λp=>Value.int p.1 p.2)/\xs.map (·.1)=ns
 | [],_,r=>by cases r;exact ⟨[],rfl,rfl⟩
 | n::ns,_,r=>by
  cases r with
  | cons r1 rr=>
   obtain ⟨t,rfl⟩:=r1;obtain ⟨xs,rfl,e⟩:=i9 rr;exact ⟨(n,t)::xs,rfl,by rw [zI,e]⟩
end
end L2
namespace Sm
open PySem L2 aY
def mx:Option Int->Option Int->Option Int
 | none,b=>b
 | some a,none=>some a
 | some a,some b=>some (if b > a then b else a)
theorem ahead {n:Nat}{ms:List M4}{m:M4}(g:Good n (ms++[m])){v:Nat}{x y:Int}{i:Nat}(hi:i≠v)(h:fwd ms (sY v x) i=some y):y<=m.t/\((i=m.lo.toNat\/i=m.hi.toNat)->y < m.t):=by
 obtain ⟨a,ha,ao,at',_⟩:=pA (ws:=jh ms) h (by simp [sY,hi]);unfold jh at ha;obtain ⟨c,hc,hx⟩:=List.mem_flatMap.mp ha;have od:=(List.pairwise_append.mp g.order).2.2 c hc m (by simp);obtain ⟨c1,c2,c3,_⟩:=g.each c (by simp [hc]);obtain ⟨m1,m2,m3,_⟩:=g.each m (by simp);unfold two at hx;simp only [zG,zK,or_false] at hx;have ct:c.t=y:=by rcases hx with rfl | rfl <;> exact at'
 have ci:i=c.lo.toNat\/i=c.hi.toNat:=by
  rcases hx with rfl | rfl
  ·exact .inr ao.symm
  ·exact .inl ao.symm
 refine ⟨by rcases od with h | h <;> omega,λhm=>?_⟩;rcases od with h | ⟨h1,h2,h3,h4,h5,h6⟩
 ·omega
 ·exfalso;rcases ci with e | e <;> rcases hm with e' | e' <;> omega
end Sm
namespace L2
open PySem PySem.Spec PyProof.Rows
section
variable {X:Cx}{ai:List (Addr×Obj)}{σ:St}{H:Hp}{s:Shared}
theorem cG {ix:Nat}{xn:Str}{pos' Kr:Pos}{own:List Str}{caps:List Nat}{elt tg iter:Expr}{ifs:List Expr}{scope:Scope}{pos:Pos}{wi:TI}{g:TG}{tc:TT}{te:TE}(hN:X.N.Nodup)(hix:X.N[ix]?=some xn)(Q3:Jf X.env.scope xn=true)(hc:X.calm=true)(S:aD own caps X.N X.env.scope scope)(hi:PI X tg iter wi)
  (hg:∀ s H fp C,PG (fD X own caps scope s H fp C) tg g) (ht:∀ s H fp C,Vp (fD X own caps scope s H fp C) ifs tc) (he:∀ s H fp C,PE (fD X own caps scope s H fp C) elt te)
  (hs:∀ x,foldedSetIterable iter X.env x=pure x:=by intro _;rfl) (ZW:swapsWith (.ListComp elt [⟨tg,iter,ifs,0⟩] scope pos) (some (.Name xn pos')) Kr.line X.env=pure true:=by rfl)
  (hf:ji X xn=true:=by rfl) :
  PS X (.Assign [.Name xn pos'] (.ListComp elt [⟨tg,iter,ifs,0⟩] scope pos) Kr) (sd (Kl own.length caps wi g tc te) (iI ix)):=by
 have Q3:=jG Q3;intro ai s σ H D0 I h;rw [exec_Assign_Name_used _ _ _ _ ZW,arm_evalThenUse_ListComp]
 suffices main:wpAny (model X.prog X.w) X.A (comprehension (.ListComp elt [⟨tg,iter,ifs,0⟩] scope pos) scope X.env (firstIterPos [⟨tg,iter,ifs,0⟩] pos) (newList []) false (eval iter X.env) (some (assign (.Name xn pos') X.env))) (λ_ s1=>SP X ai D0 .next s1) X.xe s from
  wpAny_bind (wpAny_standAt (wpAny_bind (wpAny_bind (wpAny_mono main (λ_ s1 h=>wpAny_pure (wpAny_pure h)) λ_ _ e=>e))))
 refine wpAny_comprehension_free (use:=some _) (cl:=fK scope.names X.env []) rfl hs (eL λy hy e=>I.ok.has y.1 (S.fr y hy e)) S.kind S.loc
  (wpAny_mono (hi ai s σ H _ I h) (λv s1 h1=>aZ h1 λUk s2 h2=>?_) λ_ _ e=>e)
 obtain ⟨it,fp,tn,J,H2,e,I2,T,MC,f2,W,⟨m0,w0⟩,turn⟩:=h2;subst e;refine wpAny_newObj_type (wpAny_newFunctionEnv S.nK (by intro y hy;simp at hy) (λdO dP bZ=>?_) S.kind);dsimp only at dP bZ ⊢;generalize LO:s2.heap.push { cls:=.type "list", dict:=none,data:=.seq ([]:List Value).toArray }=G at dP bZ ⊢;have hG:G.objs.size=s2.heap.objs.size + 1:=by rw [<-LO,Heap.size_push]
 have ve:s2.heap.objs.size≠G.objs.size:=by rw [hG];exact zt (Nat.lt_succ_self _)
 have nU:s2.heap.objs.size<=G.objs.size:=by rw [hG];exact Nat.le_succ _
 have below:∀ b,b < s2.heap.objs.size->b≠G.objs.size:=λb hb=>by rw [hG];exact zt (xC hb)
 have old:∀ b o,s2.heap.get? b=some o->dO.get? b=some o:=λb o e=>bZ.extBut b o (below b (Heap.lt_size e)) (Heap.get?_push_of_some _ (LO ▸ Heap.get?_push_of_some _ e));have nS:dO.get? s2.heap.objs.size=some { cls:=.type "list", dict:=none,data:=.seq ([]:List Value).toArray }:=bZ.extBut _ _ ve (Heap.get?_push_of_some _ (LO ▸ Heap.get?_push_size _ rfl));have fl:∀ b∈fp,b < s2.heap.objs.size:=λb hb=>let ⟨o,e,_⟩:=T.obj _ _ MC b hb;Heap.lt_size e;have iG:dO.Ns G.objs.size λ_=>none:=dP;have I4:=qu (tk:=s2.toks + ([]:List (Str×Value)).length) I2 S f2 fl (zJ _) nU ve old iG nS (λv z=>nomatch z);have Kq:tn 0 dO:=T.keep _ _ _ MC λb _ o e=>old b o e;generalize UE:({ s2 with heap:=dO,toks:=s2.toks + ([]:List (Str×Value)).length }:Shared)=s4 at I4 ⊢;have e4:s4.heap=dO:=by rw [<-UE]
 rw [<-e4] at Kq
 -- vJ loop
 have loop:codeAny (model X.prog X.w) X.A (.compLoop (.ListComp elt [⟨tg,iter,ifs,0⟩] scope pos) 0 (.ref it) (.ref s2.heap.objs.size) (compEnvC scope (fK scope.names X.env []) G.objs.size X.env))
   (compPost (model X.prog X.w) X.A X.xe (some (assign (.Name xn pos') X.env)) (λ_ s1=>SP X ai D0 .next s1) (.ref s2.heap.objs.size) G.objs.size) s4:=by
  let Y:=fD X own caps scope s2 H2 fp G.objs.size
  have gH:∀ {H':Hp}{aC:List Value}{n:Nat},(∀ b∈fp,H' b=none)->∀ b∈fp,jg Y [(s2.heap.objs.size,({ cls:=.type "list", data:=.seq aC.toArray n }:Obj))] H' b:=λ{H' aC n} hn b hb=>by
   refine ⟨hn b hb,below b (fl b hb),λz=>?_,.inl hb,λx c e=>(f2 b hb).2.2.2.2.1 x c (wl e),λp hp=>?_⟩
   ·rcases zG.mp (I2.eZ b z) with e | e
    ·exact (f2 b hb).2.1 e
    ·exact (f2 b hb).2.2.1 e
   ·have e:p=(s2.heap.objs.size,({ cls:=.type "list", data:=.seq aC.toArray n }:Obj)):=by simpa using (show p∈[]++[_] from hp)
    subst e;exact yf (fl b hb)
  refine i7 (λn s'=>∃ i τ acc aC k H',Inv Y [(s2.heap.objs.size,({ cls:=.type "list", data:=.seq aC.toArray k }:Obj))] τ H' s'/\tn i s'.heap/\(∀ b∈fp,H' b=none)/\Vals acc aC/\W i n τ acc H') ?_ m0
   ⟨0,_,[],[],0,H2,I4,Kq,λb hb=>(f2 b hb).1,.nil,w0⟩
  rintro n s5 ⟨i,τ,acc,aC,k,H5,I5,JO,MO,uG,w5⟩;rcases turn i n τ acc H5 w5 with ⟨stop,hz,q⟩ | ⟨go,hz,step⟩
  ·refine aZ (T.done Y rfl rfl rfl hc i _ s5 τ H5 (λ_ _=>False) I5 (gH MO) JO stop) λr s6 ⟨hr,I6⟩=>?_;subst hr;obtain ⟨eD,nD,_,_,_⟩:=I6.pin _ (zS _ (zE.mpr rfl));obtain ⟨m6,Ra,_⟩:=I6.loc;have Sh:H5 G.objs.size=none:=I6.free;have LB:gS X.prog X.w H5 s6.heap:=I6.bh;have ub:=I6.base;have IX:Inv X ai σ (upd H5 s2.heap.objs.size (.lst acc)) s6:=by
    refine I2.Mj (ch:=fp) (s':=s6) I6.os ⟨λb o e n' hb hx=>ub.keep b o e n' hb hx,λb o e n' hb hx=>?_,λb o e n' hx=>?_,λb o e hx=>?_,λb xs e=>?_,λb o u e=>?_,λb ps e=>?_⟩
     (LB.Kd nD ⟨hz,aC,k,uG,eD⟩) I6.bare λb hb=>⟨(f2 b hb).2.2.2.1,(f2 b hb).2.1,(f2 b hb).2.2.2.2.1,(f2 b hb).2.2.2.2.2⟩
    ·exact ub.slot b o e n' hb hx
    ·rw [xj (zt (Heap.lt_size e))];exact ub.free b o e n' hx
    ·exact ub.there b o e hx
    ·have z:=ub.aS b xs e;rw [xj (xV z nD)];exact z
    ·have z:=ub.ju b o u e;rw [xj (xV z nD)];exact z
    ·obtain ⟨more,z⟩:=ub.jO b ps e;exact ⟨more,by rw [xj (xV z nD)];exact z⟩
   have Rj:(upd H5 s2.heap.objs.size (.lst acc)) G.objs.size=none:=by rw [xj (Ne.symm ve)];exact Sh
   have fC:jg X ai (upd H5 s2.heap.objs.size (.lst acc)) G.objs.size:=I2.rj nU Rj;obtain ⟨oC,esC,epC,gC,dC,rC⟩:=Ra;have IP:=IX.pinned (fp:=[G.objs.size]) (λb hb=>by cases zE.mp hb;exact fC) (λb hb=>by cases zE.mp hb;exact ⟨oC,gC,λv z=>by rw [dC] at z;cases z⟩);refine wpAny_assign_Name (ic IP hN hix Q3 (v:=.ref s2.heap.objs.size) rfl (λs7 I7=>?_) hf);have pC:=(I7.pin (G.objs.size,oC) (zS _ (zS _ (qF (zE.mpr rfl) gC)))).1;refine ⟨m6,⟨oC,esC,epC,pC,dC,rC⟩,λh' Oa=>?_⟩;have I8:Inv X ai (σ.set ix (some (.ref s2.heap.objs.size))) (upd H5 s2.heap.objs.size (.lst acc)) { s7 with heap:=h' }:=I7.cO.turned (t':=s7.toks) (λb o hb e=>Oa.extBut b o hb e) fC.1 fC.2.1 fC.2.2.2.1 fC.2.2.2.2.1 fC.2.2.2.2.2;exact ⟨_,_,I8,q _ nD⟩
  ·refine aZ (T.item Y rfl rfl rfl hc i _ s5 τ H5 (λ_ _=>False) I5 (gH MO) JO go) λr s6 ⟨u,hr,h6⟩=>?_;subst hr;refine aZ h6 λ_ s7 ⟨x,H7,I7,r7,y7,Ko,U9⟩=>?_;have Vx:=I7.pinned (gH U9) (T.obj _ _ Ko);refine aZ (hg s2 H2 fp G.objs.size _ s7 τ H7 x u _ Vx r7 (step x H7 y7)) λ_ s8 ⟨oG,H8,I8,q8⟩=>?_;refine aZ (ht s2 H2 fp G.objs.size _ s8 oG H8 _ I8 q8) λok s9 ⟨H9,I9,q9⟩=>?_
   -- vJ gM state behind vJ turn
   have back:∀ {s':Shared}{OB:St}{H':Hp},Inv Y ([(s2.heap.objs.size,({ cls:=.type "list", data:=.seq aC.toArray k }:Obj))]++gJ fp s7.heap) OB H' s'->(tn (i + 1) s'.heap/\∀ b∈fp,H' b=none):=λ{s' OB H'} Ib=>
    ⟨T.keep _ _ _ Ko λb hb o e=>(Ib.pin (b,o) (zS _ (zS _ (qF hb e)))).1,λb hb=>by
     obtain ⟨o,e,d⟩:=T.obj _ _ Ko b hb;exact (Ib.pin (b,o) (zS _ (zS _ (qF hb e)))).2.1⟩
   cases ok with
   | false=>
    obtain ⟨m',Js,w'⟩:=q9;obtain ⟨sb,fb⟩:=back I9;exact ⟨m',Js,i + 1,oG,acc,aC,k,H9,I9.cO,sb,fb,uG,w'⟩
   | true=>
    refine aZ (he s2 H2 fp G.objs.size _ s9 oG H9 _ I9 q9) λy gj ⟨yv,eX,Mw,S9,Qp⟩=>?_;obtain ⟨m',Js,w'⟩:=Qp;obtain ⟨sb,fb⟩:=back Mw;obtain ⟨eD,nD,MF,Tp,_⟩:=Mw.pin (s2.heap.objs.size,_) (zS _ (yh _ (zE.mpr rfl)));have hl:acc.length=aC.length:=uG.length;refine call_meets F.slot_list_append ⟨_,eD,rfl⟩ F.entry_list_append (F.args_list_append_2 _ _) (PySem.list_append s2.heap.objs.size aC.toArray k y (by rw [zf];omega)) ⟨eD,?_⟩;have q:=PySem.IsL.update eD (λa:Array Value=>a.push y);have Iu:Inv Y [] oG eX gj:=Mw.dY λp hp=>nomatch hp;have It:=Iu.turned (t':=gj.toks) (it:=s2.heap.objs.size) (h':=gj.heap.update s2.heap.objs.size (Obj.mapSeq (λa:Array Value=>a.push y))) (λb o hb e=>(Heap.get?_update_other gj.heap _ (Ne.symm hb)).trans e) nD MF (.inr (zJ _))
     (λx c e z=>by
      obtain ⟨v,ob,nP,_⟩:=I2.cell x c (wl e);exact absurd (Heap.lt_size nP) (by rw [z];exact yM _)) (λp hp=>nomatch hp)
    have Vw:=It.dY (pJ:=[(s2.heap.objs.size,({ cls:=.type "list", data:=.seq (aC++[y]).toArray (k + 1) }:Obj))]) λp hp=>by
     have e:p=_:=zE.mp hp;subst e;exact ⟨by simpa using q,nD,MF,Tp,λv z=>nomatch z⟩
    refine ⟨m',Js,i + 1,oG,acc++[yv],aC++[y],_,eX,Vw,T.keep _ _ _ sb λb hb o e=>(Heap.get?_update_other gj.heap _ (yf (fl b hb))).trans e,fb,uG.append (.cons S9 .nil),w'⟩
 exact codeAny_compStart_list loop (T.self _ 0 s4 _ _ Kq loop)
end
section
variable {n:Nat}{caps:List Nat}{σ:St}{H:Hp}{g:TG}{tc:TT}{te:TE}{Qf:Addr->Hp->List V->Prop}{K:PySem.W.Frag}{a b:Addr}{xs ys:List V}
theorem jb (el:xs.length=ys.length)(Pv:Nat->St->List V->Hp->Prop)(h0:Pv 0 (dG n caps σ) [] H)(hn:xs.length<=1000)(hl:∀ i τ acc H,Pv i τ acc H->acc.length<=i/\aB K H a xs/\aB K H b ys)
  (hs:∀ i x y q τ acc H (C:St->List V->Hp->Prop),xs[i]?=some x->ys[i]?=some y->H q=none->Pv i τ acc H->(∀ τ acc H,Pv (i + 1) τ acc H->C τ acc H)->g (.ref q) τ (upd H q (.tup [x,y])) fun bu H2=>tc bu H2 λb H3=>if b=true then te bu H3 λy H4=>C bu (acc++[y]) H4 else C bu acc H3)
  (hd:∀ τ acc H,Pv xs.length τ acc H->∀ p,H p=none->Qf p H acc) :
  ∃ W:Nat->Nat->St->List V->Hp->Prop,(∃ m,W 0 m (dG n caps σ) [] H)/\∀ i m τ acc H,W i m τ acc H ->
   ((Ou K a b).stop i H/\acc.length<=sizeLine/\∀ p,H p=none->Qf p H acc) \/
   ((Ou K a b).go i H/\acc.length < sizeLine/\∀ x H',(Ou K a b).oA i H x H'->g x τ H' fun bu H2=>tc bu H2 λb H3=>if b=true then te bu H3 λy H4=>∃ m',m' < m/\W (i + 1) m' bu (acc++[y]) H4 else ∃ m',m' < m/\W (i + 1) m' bu acc H3):=
 iN (J:=Ou K a b) Pv xs.length h0 hn (λi τ acc H p=>(hl i τ acc H p).1) (λi τ acc H hi p=>⟨xs,ys,xs[i],ys[i]'(by omega),(hl i τ acc H p).2.1,(hl i τ acc H p).2.2,by simp [hi],by simp [<-el,hi]⟩) (fun τ acc H p=>⟨xs,ys,(hl _ τ acc H p).2.1,(hl _ τ acc H p).2.2,.inl (zJ _)⟩)
  (λi τ acc H C hi p c x H' y=>by obtain ⟨q,x',y',hq,e1,e2,y⟩:=y;subst e1;subst e2;exact hs i x' y' q τ acc _ C (y xs ys (hl i τ acc _ p).2.1 (hl i τ acc _ p).2.2).1 (y xs ys (hl i τ acc _ p).2.1 (hl i τ acc _ p).2.2).2 hq p c) hd
end
section
variable {X:Cx}
theorem JE (hc:X.calm=true):cD X (.builtin "min") (λxs H Q=>∃ p ns,xs=[.ref p]/\aB X.K H p (List.map V.int ns)/\0 < ns.length/\∀ M,M∈ns->(∀ a∈ns,M<=a)->Q (.int M) H):=by
 intro ai s σ H xs us Q I r h;obtain ⟨p,ns,rfl,hp,n0,q⟩:=h;obtain ⟨u,rfl,ru⟩:=vals1 r;cases ru;obtain ⟨aC,r,pl,_⟩:=I.list hp;obtain ⟨ys,rfl,e⟩:=i9 r;have hl:ys.length=ns.length:=by rw [<-e,zA]
 have li:s.heap.IsList p (intItems ys.toArray):=by
  have:=pl.isList;unfold intItems;rw [List.map_toArray];exact this
 refine min_intList (I.ok.hd hc) li (by simp;omega) λv h' tk hv k=>?_;obtain ⟨t,rfl⟩:=intItems_at hv;obtain ⟨b1,b2⟩:=argBest_lt (numAt ys.toArray) (ys.toArray.size - 1);have NT:∀ j (h:j < ns.length),numAt ys.toArray j=ns[j]:=λj h=>by
  rw [numAt_eq];simp [e,h]
 have sz:ys.toArray.size=ns.length:=by simp [hl]
 rw [sz] at b1 b2 ⊢;refine ⟨.int _,H,I.kept k,⟨_,rfl⟩,q _ ?_ λa ha=>?_⟩
 ·rw [NT _ (by omega)];exact yC _
 ·obtain ⟨j,hj,rfl⟩:=List.mem_iff_getElem.mp ha;have:=b2 j (by omega);rw [NT j hj] at this;exact this
end
end L2
namespace Sm
open PySem L2 aY
theorem ZG {c:Bool}{A B:Prop}{D:Ends}{σ:St}{H:Hp}(Pre:St->Hp->Prop)(k:∀ σ H,Pre σ H->D.nx σ H)(h1:c=true->(∀ σ H,Pre σ H->D.nx σ H)->A)(h2:c=false->(∀ σ H,Pre σ H->D.nx σ H)->B):if c=true then (if true=true then A else jP D σ H) else B:=by
 cases c with
 | true=>exact h1 rfl k
 | false=>exact h2 rfl k
theorem N5 {c:Bool}{T2 A:Prop}{D:Ends}{σ:St}{H:Hp}(Pre:St->Hp->Prop)(k:∀ σ H,Pre σ H->D.nx σ H)(h1:c=true->(∀ σ H,Pre σ H->D.nx σ H)->T2)(h2:c=false->Pre σ H):if c=true then T2 else (if false=true then A else jP D σ H):=by
 cases c with
 | true=>exact h1 rfl k
 | false=>exact k _ _ (h2 rfl)
end Sm
namespace L2
open PySem PySem.Spec PyProof.Rows
section
variable {prog:Program}{w:World}{A:Around}{E:Value->Shared->Prop}{s:Shared}
structure ZD (prog:Program) (w:World) (A:Around) (z TI TO i1 i2:Addr) (vj vh:List Addr) (n:Nat) (P1 P2:Nat->Value->Prop) (S1 S2:Nat->Heap->Prop):Prop where
 d1:Draws prog w A i1 vj n P1 S1
 d2:Draws prog w A i2 vh n P2 S2
 ne:TI≠z/\TO≠z/\i1≠z/\i2≠z/\TI≠TO/\TI≠i1/\TI≠i2/\TO≠i1/\TO≠i2/\i1≠i2
 f1:z ∉ vj/\TO ∉ vj/\i2 ∉ vj
 f2:z ∉ vh/\TO ∉ vh/\i1 ∉ vh
variable {z TI TO i1 i2:Addr} {vj vh:List Addr}{n:Nat} {P1 P2:Nat->Value->Prop} {S1 S2:Nat->Heap->Prop}
theorem dh {fp:List Addr}{a:Addr}{h h':Heap}(n:a ∉ fp)(x:Heap.SameBut a h h'):∀ b∈fp,∀ o,h.get? b=some o->h'.get? b=some o:=λb hb o e=>x.extBut b o (λq=>n (q ▸ hb)) e
theorem MQ {k:Nat}{a b:Value}{Q:Value->Shared->Prop}(D:ZD prog w A z TI TO i1 i2 vj vh n P1 P2 S1 S2)(hk:k < n)
  (hz:IsZip s.heap z TI TO .none) (eH:IsPair s.heap TI (.ref i1) (.ref i2)) (fB:IsPair s.heap TO a b) (t1:S1 k s.heap) (t2:S2 k s.heap)
  (hQ:∀ x y h' tk,P1 k x->P2 k y->IsZip h' z TI TO (rawInt s.heap.objs.size)->IsPair h' TO x y->S1 (k + 1) h'->S2 (k + 1) h'->IsPair h' s.heap.objs.size x y->h'.objs.size=s.heap.objs.size + 1 ->
   (∀ c o,c≠z->c≠TO->c≠i1->c≠i2->s.heap.get? c=some o->h'.get? c=some o)->Q (.ref s.heap.objs.size) { s with heap:=h',toks:=tk })
  (w1:∀ b∈vj,b < s.heap.objs.size) (w2:∀ b∈vh,b < s.heap.objs.size) :
  wpAny (model prog w) A (Builtin.«zip.__next__» ⟨[.ref z],[]⟩) (λfin s'=>∃ v,fin=.done (.ret v)/\Q v s') E s:=by
 obtain ⟨n1,n2,n3,n4,n5,n6,n7,n8,n9,Lc⟩:=D.ne;show wpAny _ _ (field (.ref z) 2 >>= _) _ _ _;refine wpAny_bind (wpAny_field hz rfl (x:=.bool false) rfl ?_);show wpAny _ _ (field (.ref z) 3 >>= _) _ _ _;refine wpAny_bind (wpAny_field hz rfl (x:=.ref TI) rfl (wpAny_bind (wpAny_seqItems eH rfl ?_)));show wpAny _ _ (Builtin.SmallTypes.ownedTupleIsFree (.ref z) >>= _) _ _ _;refine wpAny_bind ?_;unfold Builtin.SmallTypes.ownedTupleIsFree;refine wpAny_bind (wpAny_field hz rfl (x:=.none) rfl (wpAny_pure ?_));simp only [if_true];refine wpAny_bind (wpAny_rule (wpAny_bind (wpAny_field hz rfl (x:=.ref TO) rfl (wpAny_bind (wpAny_setField_rec hz (by simp) λh1 gA e1=>wpAny_bind ?_)))))
 replace gA:IsZip h1 z TI TO .ellipsis:=gA
 simp only [List.zipIdx_cons,List.zipIdx_nil,List.forIn_cons,List.forIn_nil];refine wpAny_bind (wpAny_bind (wpAny_onRaise (show wpAny _ _ (Builtin.SmallTypes.nextOf (.ref i1) >>= _) _ _ _ from wpAny_bind (D.d1.item k _ _ _ hk (D.d1.frame _ _ _ t1 (dh D.f1.1 e1)) λx h2 X8 px u1 e2=>wpAny_pure ?_))));have o2:IsPair h2 TO a b:=e2.extBut _ _ n8 (e1.extBut _ _ n2 fB);refine wpAny_bind (wpAny_seqItems o2 rfl (wpAny_bind (wpAny_updateSeq_pair o2 λh3 o3 e3=>wpAny_bind (wpAny_letGo (wpAny_pure ?_)))))
 replace o3:IsPair h3 TO x b:=o3
 refine wpAny_bind (wpAny_bind (wpAny_onRaise (show wpAny _ _ (Builtin.SmallTypes.nextOf (.ref i2) >>= _) _ _ _ from wpAny_bind (D.d2.item k _ _ _ hk (D.d2.frame _ _ _ (D.d2.frame _ _ _ (D.d2.frame _ _ _ t2 (dh D.f2.1 e1)) (dh D.f2.2.2 e2)) (dh D.f2.2.1 e3)) λy h4 tk4 py u2 e4=>wpAny_pure ?_))));have o4:IsPair h4 TO x b:=e4.extBut _ _ n9 o3;refine wpAny_bind (wpAny_seqItems o4 rfl (wpAny_bind (wpAny_updateSeq_pair o4 λh5 o5 e5=>wpAny_bind (wpAny_letGo (wpAny_pure (wpAny_pure ?_))))))
 replace o5:IsPair h5 TO x y:=o5
 refine wpAny_bind (wpAny_seqItems o5 rfl (wpAny_bind (wpAny_newTuple ?_)));have sz:h5.objs.size=s.heap.objs.size:=by rw [e5.1,e4.1,e3.1,e2.1,e1.1]
 have z5:IsZip h5 z TI TO .ellipsis:=e5.extBut _ _ n2.symm (e4.extBut _ _ n4.symm (e3.extBut _ _ n2.symm (e2.extBut _ _ n3.symm gA)));have old:∀ c o,c≠z->c≠TO->c≠i1->c≠i2->s.heap.get? c=some o->h5.get? c=some o:=λc o c1 c2 c3 c4 e=>
  e5.extBut _ _ c2 (e4.extBut _ _ c4 (e3.extBut _ _ c2 (e2.extBut _ _ c3 (e1.extBut _ _ c1 e))))
 have v1:S1 (k + 1) h5:=D.d1.frame _ _ _ (D.d1.frame _ _ _ (D.d1.frame _ _ _ u1 (dh D.f1.2.1 e3)) (dh D.f1.2.2 e4)) (dh D.f1.2.1 e5);have v2:S2 (k + 1) h5:=D.d2.frame _ _ _ u2 (dh D.f2.2.1 e5);have zl:z < h5.objs.size:=Heap.lt_size z5;show wpAny _ _ (Builtin.SmallTypes.ownedTupleHandOut (.ref z) (.ref h5.objs.size) >>= _) _ _ _;refine wpAny_bind ?_;unfold Builtin.SmallTypes.ownedTupleHandOut;have z6:IsZip (h5.push { cls:=.type "tuple", data:=.seq #[x,y] }) z TI TO .ellipsis:=Heap.get?_push_of_some _ z5;refine wpAny_bind (wpAny_setField_rec z6 (by simp) λh7 z7 e7=>?_)
 replace z7:IsZip h7 z TI TO (rawInt h5.objs.size):=z7
 refine wpAny_setField_rec z7 (by simp) λh8 z8 e8=>wpAny_pure ⟨_,rfl,?_⟩
 replace z8:IsZip h8 z TI TO (rawInt h5.objs.size):=z8
 have up:∀ c o,c≠z->h5.get? c=some o->h8.get? c=some o:=λc o c1 e=>e8.extBut _ _ c1 (e7.extBut _ _ c1 (Heap.get?_push_of_some _ e));have t8:IsPair h8 h5.objs.size x y:=e8.extBut _ _ (yf zl) (e7.extBut _ _ (yf zl) (Heap.get?_push_size _ rfl));have s8:h8.objs.size=h5.objs.size + 1:=by rw [e8.1,e7.1,Heap.size_push]
 rw [sz] at z8 t8 s8;show Q (.ref h5.objs.size) _;rw [sz];exact hQ x y h8 _ px py z8 (up _ _ n2 o5) (D.d1.frame _ _ _ v1 λb hb o e=>up b o (λq=>D.f1.1 (q ▸ hb)) e) (D.d2.frame _ _ _ v2 λb hb o e=>up b o (λq=>D.f2.1 (q ▸ hb)) e) t8 s8 λc o c1 c2 c3 c4 e=>up c o c1 (old c o c1 c2 c3 c4 e)
theorem Pq {a b:Value}{Q:PySem.Fin->Shared->Prop}(D:ZD prog w A z TI TO i1 i2 vj vh n P1 P2 S1 S2)
  (hz:IsZip s.heap z TI TO .none) (eH:IsPair s.heap TI (.ref i1) (.ref i2)) (fB:IsPair s.heap TO a b) (t1:S1 n s.heap)
  (hE:∀ h' e,(∀ c o,c≠z->c≠TO->c≠i1->c≠i2->s.heap.get? c=some o->h'.get? c=some o)->(∃ o,h'.get? e=some o/\o.cls=.type "StopIteration")->E (.ref e) { s with heap:=h' }) :
  wpAny (model prog w) A (Builtin.«zip.__next__» ⟨[.ref z],[]⟩) Q E s:=by
 obtain ⟨n1,n2,n3,n4,n5,n6,n7,n8,n9,Lc⟩:=D.ne;show wpAny _ _ (field (.ref z) 2 >>= _) _ _ _;refine wpAny_bind (wpAny_field hz rfl (x:=.bool false) rfl ?_);show wpAny _ _ (field (.ref z) 3 >>= _) _ _ _;refine wpAny_bind (wpAny_field hz rfl (x:=.ref TI) rfl (wpAny_bind (wpAny_seqItems eH rfl ?_)));show wpAny _ _ (Builtin.SmallTypes.ownedTupleIsFree (.ref z) >>= _) _ _ _;refine wpAny_bind ?_;unfold Builtin.SmallTypes.ownedTupleIsFree;refine wpAny_bind (wpAny_field hz rfl (x:=.none) rfl (wpAny_pure ?_));simp only [if_true];refine wpAny_bind (wpAny_rule (wpAny_bind (wpAny_field hz rfl (x:=.ref TO) rfl (wpAny_bind (wpAny_setField_rec hz (by simp) λh1 gA e1=>wpAny_bind ?_)))))
 replace gA:IsZip h1 z TI TO .ellipsis:=gA
 simp only [List.zipIdx_cons,List.zipIdx_nil,List.forIn_cons,List.forIn_nil];refine wpAny_bind (wpAny_bind (wpAny_onRaise (show wpAny _ _ (Builtin.SmallTypes.nextOf (.ref i1) >>= _) _ _ _ from wpAny_bind (D.d1.done _ _ _ (D.d1.frame _ _ _ t1 (dh D.f1.1 e1)) λh2 e e2 he=>?_))));obtain ⟨oe,Z9,hce⟩:=he;have z2:IsZip h2 z TI TO .ellipsis:=e2 _ _ n3.symm gA;have hez:e≠z:=λx=>by subst x;rw [z2] at Z9;cases Z9;simp at hce
 exact wpAny_setField_rec z2 (by simp) λh3 _ e3=>hE h3 e (λc o c1 _ c3 _ x=>e3.extBut _ _ c1 (e2 _ _ c3 (e1.extBut _ _ c1 x))) ⟨oe,e3.extBut _ _ hez Z9,hce⟩
end
section
variable {prog:Program}{w:World}{A:Around}{E:Value->Shared->Prop}{s:Shared}
variable {z TI TO i1 i2:Addr} {vj vh:List Addr}{n:Nat} {P1 P2:Nat->Value->Prop} {S1 S2:Nat->Heap->Prop}
theorem oJ {k:Nat}{a b:Value}{Q:Option Value->Shared->Prop}(D:ZD prog w A.in1 z TI TO i1 i2 vj vh n P1 P2 S1 S2)(hk:k < n)
  (hz:IsZip s.heap z TI TO .none) (eH:IsPair s.heap TI (.ref i1) (.ref i2)) (fB:IsPair s.heap TO a b) (t1:S1 k s.heap) (t2:S2 k s.heap)
  (hQ:∀ x y h' tk,P1 k x->P2 k y->IsZip h' z TI TO (rawInt s.heap.objs.size)->IsPair h' TO x y->S1 (k + 1) h'->S2 (k + 1) h'->IsPair h' s.heap.objs.size x y->h'.objs.size=s.heap.objs.size + 1 ->
   (∀ c o,c≠z->c≠TO->c≠i1->c≠i2->s.heap.get? c=some o->h'.get? c=some o)->Q (some (.ref s.heap.objs.size)) { s with heap:=h',toks:=tk })
  (w1:∀ b∈vj,b < s.heap.objs.size) (w2:∀ b∈vh,b < s.heap.objs.size) :
  wpAny (model prog w) A (pyNext (.ref z)) Q E s:=by
 have hT:s.TypeIs (.ref z) "zip" := ⟨_,hz,rfl⟩;unfold pyNext;exact wpAny_bind (wpAny_attempt (wpAny_callSpecial?_slot (name:=Str.ofString "__next__") hT F.slot_zip_next
  (wpAny_call_entry F.slot_zip_next hT F.entry_zip_next
   (MQ D hk hz eH fB t1 t2 (λx y h' tk a0 a00 a1 a2 a3 a4 a5 a6 a7=>wpAny_pure (hQ x y h' tk a0 a00 a1 a2 a3 a4 a5 a6 a7)) w1 w2) (F.args_zip_next_1 _))))
theorem ua {a b:Value}{Q:Option Value->Shared->Prop}(D:ZD prog w A.in1 z TI TO i1 i2 vj vh n P1 P2 S1 S2)
  (hz:IsZip s.heap z TI TO .none) (eH:IsPair s.heap TI (.ref i1) (.ref i2)) (fB:IsPair s.heap TO a b) (t1:S1 n s.heap)
  (hQ:∀ h',(∀ c o,c≠z->c≠TO->c≠i1->c≠i2->s.heap.get? c=some o->h'.get? c=some o)->Q none { s with heap:=h' }):wpAny (model prog w) A (pyNext (.ref z)) Q E s:=by
 have hT:s.TypeIs (.ref z) "zip" := ⟨_,hz,rfl⟩;unfold pyNext;refine wpAny_bind (wpAny_attempt (wpAny_callSpecial?_slot (name:=Str.ofString "__next__") hT F.slot_zip_next
  (wpAny_call_entry F.slot_zip_next hT F.entry_zip_next (Pq D hz eH fB t1 λh' e hk he=>?_) (F.args_zip_next_1 _))))
 obtain ⟨o,ho,hc⟩:=he;exact wpAny_bind (wpAny_isInstance (T := "StopIteration") (b:=true) ⟨o,ho,hc⟩ isSubtype_stop (wpAny_pure (hQ _ hk)))
end
abbrev ZN (z TI TO i1 i2:Addr):Prop:=TI≠z/\TO≠z/\i1≠z/\i2≠z/\TI≠TO/\TI≠i1/\TI≠i2/\TO≠i1/\TO≠i2/\i1≠i2
section
variable {K:PySem.W.Frag}{a b:Addr}{xs ys:List V}{n:Nat}{caps:List Nat}{g:TG}{tc:TT}{te:TE}{σ:St}{H:Hp}{Qf:Addr->Hp->List V->Prop}
end
end L2
namespace Sm
open PySem L2 aY
theorem bH {K:PySem.W.Frag}{H:Hp}{a:Addr}{xs:List V}{i:Int}{v:V}{Q:V->Prop}(h:H a=some (.tup xs))(hi:bQ xs i=some v)(q:Q v):∃ p gU i' v',V.ref a=.ref p/\V.int i=.int i'/\aX K H p gU/\bQ gU i'=some v'/\Q v':=⟨a,xs,i,v,rfl,rfl,aX.of h,hi,q⟩
theorem bL {K:PySem.W.Frag}{H:Hp}{a:Addr}{xs:List V}{i:Int}{v:V}{Q:V->Prop}(h:H a=some (.lst xs))(hi:bQ xs i=some v)(q:Q v):∃ p gU i' v',V.ref a=.ref p/\V.int i=.int i'/\aB K H p gU/\bQ gU i'=some v'/\Q v':=⟨a,xs,i,v,rfl,rfl,aB.of h,hi,q⟩
theorem lN {P:List Value->Prop}{us:List Value}{n:Nat}(h:us.length=n + 1)(q:∀ a r,r.length=n->P (a::r)):P us:=by
 cases us with
 | nil=>cases h
 | cons a r=>exact q a r (Nat.succ.inj h)
theorem RP {P:List Value->Prop}{us:List Value}(h:us.length=0)(q:P []):P us:=by rw [List.eq_nil_of_length_eq_zero h];exact q
theorem RQ {fd:FuncData}{ps:List Str}{us:List Value}(h:us.length=1)(q:∀ a,bindArgs fd ⟨[a],[]⟩=pure (ps.zip [a])):bindArgs fd ⟨us,[]⟩=pure (ps.zip us):=lN (P:=λus=>bindArgs fd ⟨us,[]⟩=pure (ps.zip (us))) h λa us h=>RP (P:=λus=>bindArgs fd ⟨a::us,[]⟩=pure (ps.zip (a::us))) h (q a)
theorem MV {fd:FuncData}{ps:List Str}{us:List Value}(h:us.length=2)(q:∀ a b,bindArgs fd ⟨[a,b],[]⟩=pure (ps.zip [a,b])):bindArgs fd ⟨us,[]⟩=pure (ps.zip us):=lN (P:=λus=>bindArgs fd ⟨us,[]⟩=pure (ps.zip (us))) h λa us h=>lN (P:=λus=>bindArgs fd ⟨a::us,[]⟩=pure (ps.zip (a::us))) h λb us h=>RP (P:=λus=>bindArgs fd ⟨a::b::us,[]⟩=pure (ps.zip (a::b::us))) h (q a b)
theorem MB {fd:FuncData}{ps:List Str}{us:List Value}(h:us.length=3)(q:∀ a b c,bindArgs fd ⟨[a,b,c],[]⟩=pure (ps.zip [a,b,c])):bindArgs fd ⟨us,[]⟩=pure (ps.zip us):=lN (P:=λus=>bindArgs fd ⟨us,[]⟩=pure (ps.zip (us))) h λa us h=>lN (P:=λus=>bindArgs fd ⟨a::us,[]⟩=pure (ps.zip (a::us))) h λb us h=>lN (P:=λus=>bindArgs fd ⟨a::b::us,[]⟩=pure (ps.zip (a::b::us))) h λc us h=>RP (P:=λus=>bindArgs fd ⟨a::b::c::us,[]⟩=pure (ps.zip (a::b::c::us))) h (q a b c)
theorem MA {fd:FuncData}{ps:List Str}{us:List Value}(h:us.length=4)(q:∀ a b c d,bindArgs fd ⟨[a,b,c,d],[]⟩=pure (ps.zip [a,b,c,d])):bindArgs fd ⟨us,[]⟩=pure (ps.zip us):=lN (P:=λus=>bindArgs fd ⟨us,[]⟩=pure (ps.zip (us))) h λa us h=>lN (P:=λus=>bindArgs fd ⟨a::us,[]⟩=pure (ps.zip (a::us))) h λb us h=>lN (P:=λus=>bindArgs fd ⟨a::b::us,[]⟩=pure (ps.zip (a::b::us))) h λc us h=>lN (P:=λus=>bindArgs fd ⟨a::b::c::us,[]⟩=pure (ps.zip (a::b::c::us))) h λd us h=>RP (P:=λus=>bindArgs fd ⟨a::b::c::d::us,[]⟩=pure (ps.zip (a::b::c::d::us))) h (q a b c d)
theorem X6 {fd:FuncData}{ps:List Str}{us:List Value}(h:us.length=5)(q:∀ a b c d e,bindArgs fd ⟨[a,b,c,d,e],[]⟩=pure (ps.zip [a,b,c,d,e])):bindArgs fd ⟨us,[]⟩=pure (ps.zip us):=lN (P:=λus=>bindArgs fd ⟨us,[]⟩=pure (ps.zip (us))) h λa us h=>lN (P:=λus=>bindArgs fd ⟨a::us,[]⟩=pure (ps.zip (a::us))) h λb us h=>lN (P:=λus=>bindArgs fd ⟨a::b::us,[]⟩=pure (ps.zip (a::b::us))) h λc us h=>lN (P:=λus=>bindArgs fd ⟨a::b::c::us,[]⟩=pure (ps.zip (a::b::c::us))) h λd us h=>lN (P:=λus=>bindArgs fd ⟨a::b::c::d::us,[]⟩=pure (ps.zip (a::b::c::d::us))) h λe us h=>RP (P:=λus=>bindArgs fd ⟨a::b::c::d::e::us,[]⟩=pure (ps.zip (a::b::c::d::e::us))) h (q a b c d e)
theorem X5 {fd:FuncData}{ps:List Str}{us:List Value}(h:us.length=6)(q:∀ a b c d e f,bindArgs fd ⟨[a,b,c,d,e,f],[]⟩=pure (ps.zip [a,b,c,d,e,f])):bindArgs fd ⟨us,[]⟩=pure (ps.zip us):=lN (P:=λus=>bindArgs fd ⟨us,[]⟩=pure (ps.zip (us))) h λa us h=>lN (P:=λus=>bindArgs fd ⟨a::us,[]⟩=pure (ps.zip (a::us))) h λb us h=>lN (P:=λus=>bindArgs fd ⟨a::b::us,[]⟩=pure (ps.zip (a::b::us))) h λc us h=>lN (P:=λus=>bindArgs fd ⟨a::b::c::us,[]⟩=pure (ps.zip (a::b::c::us))) h λd us h=>lN (P:=λus=>bindArgs fd ⟨a::b::c::d::us,[]⟩=pure (ps.zip (a::b::c::d::us))) h λe us h=>lN (P:=λus=>bindArgs fd ⟨a::b::c::d::e::us,[]⟩=pure (ps.zip (a::b::c::d::e::us))) h λf us h=>RP (P:=λus=>bindArgs fd ⟨a::b::c::d::e::f::us,[]⟩=pure (ps.zip (a::b::c::d::e::f::us))) h (q a b c d e f)
theorem ex7 {nh ng m5 mZ mY mX mW:Type}{P:nh->ng->m5->mZ->mY->mX->mW->Prop}(x0:nh)(x1:ng)(x2:m5)(x3:mZ)(x4:mY)(x5:mX)(x6:mW)(h:P x0 x1 x2 x3 x4 x5 x6):∃ y0:nh,∃ y1:ng,∃ y2:m5,∃ y3:mZ,∃ y4:mY,∃ y5:mX,∃ y6:mW,P y0 y1 y2 y3 y4 y5 y6:=⟨x0,x1,x2,x3,x4,x5,x6,h⟩
theorem ex8 {nh ng m5 mZ mY mX mW rW:Type}{P:nh->ng->m5->mZ->mY->mX->mW->rW->Prop}(x0:nh)(x1:ng)(x2:m5)(x3:mZ)(x4:mY)(x5:mX)(x6:mW)(x7:rW)(h:P x0 x1 x2 x3 x4 x5 x6 x7):∃ y0:nh,∃ y1:ng,∃ y2:m5,∃ y3:mZ,∃ y4:mY,∃ y5:mX,∃ y6:mW,∃ y7:rW,P y0 y1 y2 y3 y4 y5 y6 y7:=⟨x0,x1,x2,x3,x4,x5,x6,x7,h⟩
theorem tR {nh ng m5 mZ mY mX mW rW J2 J0:Type}{P:nh->ng->m5->mZ->mY->mX->mW->rW->J2->J0->Prop}(x0:nh)(x1:ng)(x2:m5)(x3:mZ)(x4:mY)(x5:mX)(x6:mW)(x7:rW)(x8:J2)(x9:J0)(h:P x0 x1 x2 x3 x4 x5 x6 x7 x8 x9):∃ y0:nh,∃ y1:ng,∃ y2:m5,∃ y3:mZ,∃ y4:mY,∃ y5:mX,∃ y6:mW,∃ y7:rW,∃ y8:J2,∃ y9:J0,P y0 y1 y2 y3 y4 y5 y6 y7 y8 y9:=⟨x0,x1,x2,x3,x4,x5,x6,x7,x8,x9,h⟩
theorem aaJ {nh ng m5 mZ mY mX mW rW J2 J0 rX:Type}{P:nh->ng->m5->mZ->mY->mX->mW->rW->J2->J0->rX->Prop}(x0:nh)(x1:ng)(x2:m5)(x3:mZ)(x4:mY)(x5:mX)(x6:mW)(x7:rW)(x8:J2)(x9:J0)(Sq:rX)(h:P x0 x1 x2 x3 x4 x5 x6 x7 x8 x9 Sq):∃ y0:nh,∃ y1:ng,∃ y2:m5,∃ y3:mZ,∃ y4:mY,∃ y5:mX,∃ y6:mW,∃ y7:rW,∃ y8:J2,∃ y9:J0,∃ XU:rX,P y0 y1 y2 y3 y4 y5 y6 y7 y8 y9 XU:=⟨x0,x1,x2,x3,x4,x5,x6,x7,x8,x9,Sq,h⟩
theorem aaI {nh ng m5 mZ mY mX mW rW J2 J0 rX Pp:Type}{P:nh->ng->m5->mZ->mY->mX->mW->rW->J2->J0->rX->Pp->Prop}(x0:nh)(x1:ng)(x2:m5)(x3:mZ)(x4:mY)(x5:mX)(x6:mW)(x7:rW)(x8:J2)(x9:J0)(Sq:rX)(x11:Pp)(h:P x0 x1 x2 x3 x4 x5 x6 x7 x8 x9 Sq x11):∃ y0:nh,∃ y1:ng,∃ y2:m5,∃ y3:mZ,∃ y4:mY,∃ y5:mX,∃ y6:mW,∃ y7:rW,∃ y8:J2,∃ y9:J0,∃ XU:rX,∃ y11:Pp,P y0 y1 y2 y3 y4 y5 y6 y7 y8 y9 XU y11:=⟨x0,x1,x2,x3,x4,x5,x6,x7,x8,x9,Sq,x11,h⟩
theorem JN {K:PySem.W.Frag}{H:Hp}{a:Addr}{v0 v1:V}{Q:V->V->Prop}(h:H a=some (.tup [v0,v1]))(q:Q v0 v1):∃ a' xs,V.ref a=.ref a'/\aX K H a' xs/\xs.length=2/\∃ w0 r0,xs=w0::r0/\∃ w1 r1,r0=w1::r1/\r1=[]/\Q w0 w1:=⟨a,_,rfl,aX.of h,rfl,_,_,rfl,_,_,rfl,rfl,q⟩
theorem MW {K:PySem.W.Frag}{H:Hp}{a:Addr}{v0 v1 v2:V}{Q:V->V->V->Prop}(h:H a=some (.tup [v0,v1,v2]))(q:Q v0 v1 v2):∃ a' xs,V.ref a=.ref a'/\aX K H a' xs/\xs.length=3/\∃ w0 r0,xs=w0::r0/\∃ w1 r1,r0=w1::r1/\∃ w2 r2,r1=w2::r2/\r2=[]/\Q w0 w1 w2:=⟨a,_,rfl,aX.of h,rfl,_,_,rfl,_,_,rfl,_,_,rfl,rfl,q⟩
theorem RT {K:PySem.W.Frag}{H:Hp}{a:Addr}{v0 v1 v2 v3:V}{Q:V->V->V->V->Prop}(h:H a=some (.tup [v0,v1,v2,v3]))(q:Q v0 v1 v2 v3):∃ a' xs,V.ref a=.ref a'/\aX K H a' xs/\xs.length=4/\∃ w0 r0,xs=w0::r0/\∃ w1 r1,r0=w1::r1/\∃ w2 r2,r1=w2::r2/\∃ w3 r3,r2=w3::r3/\r3=[]/\Q w0 w1 w2 w3:=⟨a,_,rfl,aX.of h,rfl,_,_,rfl,_,_,rfl,_,_,rfl,_,_,rfl,rfl,q⟩
theorem zr {α:Sort _}{A Q:α->Prop}{x:α}(a:A x)(q:Q x):∃ y,A y/\Q y:=⟨x,a,q⟩
theorem lV {α β:Sort _}{A Q:α->β->Prop}{x:α}{y:β}(a:A x y)(q:Q x y):∃ x y,A x y/\Q x y:=⟨x,y,a,q⟩
theorem aG {α β:Sort _}{A B Q:α->β->Prop}{x:α}{y:β}(a:A x y)(b:B x y)(q:Q x y):∃ x y,A x y/\B x y/\Q x y:=⟨x,y,a,b,q⟩
def Pr (ms:List M4)(j:Int):Int:=((ms[j.toNat]?).map (·.t)).getD 0
def abb (ms:List M4)(k:Nat):List Int:=(numsTo ms k ms.length).map (Pr ms)
section
variable {n k w:Nat}{ms:List M4}{day:Int}
end
theorem Um {c:Bool}{t1 t2:TS}{D:Ends}{σ:St}{H:Hp}(Pre:St->Hp->Prop)(k:∀ σ H,Pre σ H->D.nx σ H)(h1:c=true->(∀ σ H,Pre σ H->D.nx σ H)->t1 D σ H)(h2:c=false->(∀ σ H,Pre σ H->D.nx σ H)->t2 D σ H):if c=true then t1 D σ H else t2 D σ H:=by
 cases c with
 | true=>exact h1 rfl k
 | false=>exact h2 rfl k
def nextOf (ts:List (Int×Int))(b:Int)(k:Nat):Int:=match ts[k + 1]? with
 | some q=>q.1
 | none=>b
structure L4 where
 s:Nat
 w:Nat
 a:Int
 z:Int
theorem l7:∀ {xs ys:List Int},xs.Nodup->(∀ x∈xs,x∈ys)->xs.length<=ys.length
 | [],_,_,_=>zx _
 | x::xs,ys,nd,h=>by
  have V4:=xH.mp nd;have hm:=h x (.head _);have:=l7 (xs:=xs) (ys:=ys.erase x) V4.2 λz hz=>(List.mem_erase_of_ne (λe=>V4.1 (by rw [<-e];exact hz))).mpr (h z (.tail _ hz));rw [List.length_erase_of_mem hm] at this;have:0 < ys.length:=List.length_pos_of_mem hm;show xs.length + 1<=_;omega
theorem map_some {α β:Type}{f:α->β}{o o':Option α}{a:α}(e:o.map f=o'.map f)(h:o'=some a):∃ b,o=some b/\f b=f a:=by
 subst h;cases o with
 | none=>cases e
 | some b=>exact ⟨b,rfl,Option.some.inj e⟩
open Classical in
noncomputable def cut (M:Addr->Prop) (H:Hp):Hp:=λc=>if M c then none else H c
structure G2 (H:Hp) (tl:Addr) (ta:List Addr) (kl:Addr) (ka:List Addr):Prop where
 nd:(ta++ka).Nodup
 nt:tl ∉ ta++ka
 nk:kl ∉ ta++ka
 fr:∀ c∈ta++ka,H c=none
section
variable {H0 H H':Hp}{tl kl:Addr}{ta ka:List Addr}{T K:List (List (Option Int))}{j:Nat}{c:Addr}{row:List (Option Int)}
end
end Sm
namespace L2
open PySem PySem.Spec PyProof.Rows
section
variable {X:Cx}
theorem cJ (hc:X.calm=true):cD X (.builtin "sum") (λxs H Q=>∃ p ns,xs=[.ref p]/\aB X.K H p (List.map V.int ns)/\Q (.int ns.sum) H):=by
 intro ai s σ H xs us Q I r h;obtain ⟨p,ns,rfl,hp,q⟩:=h;obtain ⟨u,rfl,ru⟩:=vals1 r;cases ru;obtain ⟨aC,r,pl,_⟩:=I.list hp;obtain ⟨ys,rfl,e⟩:=i9 r;have hl:ys.length=ns.length:=by rw [<-e,zA]
 have li:s.heap.IsList p (intItems ys.toArray):=by
  have:=pl.isList;unfold intItems;rw [List.map_toArray];exact this
 refine sum_intListG (I.ok.hd hc) li λh' tk t' k=>?_;have NT:∀ j (h:j < ns.length),numAt ys.toArray j=ns[j]:=λj h=>by
  rw [numAt_eq];simp [e,h]
 have sz:ys.toArray.size=ns.length:=by simp [hl]
 have ps:∀ n,n<=ns.length->preSum (numAt ys.toArray) n=(ns.take n).sum:=by
  intro n;induction n with
  | zero=>intro _;rfl
  | succ n ih=>
   intro hn;show preSum (numAt ys.toArray) n + numAt ys.toArray n=_;rw [ih (by omega),NT n (by omega),List.take_succ_eq_append_getElem (by omega),yw];show _ + ns[n]=_ + (ns[n] + 0);omega
 rw [sz,ps _ (zJ _),zd];exact ⟨.int _,H,I.kept k,⟨_,rfl⟩,q⟩
end
end L2
namespace Sm
open PySem L2 aY
section
variable {aa:List Int}{ms:List M4}{ls:List (Addr×L4)}{d:Pj}{m j:Nat}{s:RS}{M:M4}{L:Addr×L4}
end
section
variable {CA CH:Addr}{H:Hp}{r:Addr}{σ:St}{i:Nat}{Q:VK} {E2:XK}{d:Pj}
end
end Sm
namespace L2
open PySem PySem.Spec PyProof.Rows
theorem J4 (l1 l2:Addr)(xs ys:Array Value) :
  Meets (Builtin.«zip.__new__» ⟨[.type "zip", .ref l1,.ref l2],[]⟩) (λ_ R s=>s.heap.IsList l1 xs/\s.heap.IsTuple l2 ys /\
   ∀ h':Heap,IsZip h' (s.heap.objs.size + 4) (s.heap.objs.size + 2) (s.heap.objs.size + 3) .none->IsPair h' (s.heap.objs.size + 2) (.ref s.heap.objs.size) (.ref (s.heap.objs.size + 1)) ->
   IsPair h' (s.heap.objs.size + 3) .none .none->h'.IsListIter s.heap.objs.size l1 0->h'.IsTupleIter (s.heap.objs.size + 1) l2 0 -> 
   (∀ c o,s.heap.get? c=some o->h'.get? c=some o)->R (.ok (.ret (.ref (s.heap.objs.size + 4)))) { s with heap:=h' }):=
 .of_wp λprog w A R s h=>by
  obtain ⟨hp,g,d,tk,os⟩:=s;obtain ⟨LH,JU,h⟩:=h;have UD:=sub_zip;have hL1:Heap.IsList (Shared.heap ⟨hp,g,d,tk,os⟩) l1 xs:=LH;have hL2:Heap.IsTuple (Shared.heap ⟨hp.push { cls:=.type "list_iterator", data:=.fields #[.ref l1,.int 0 0] },g,d,tk,os⟩) l2 ys:=let ⟨o,e,r⟩:=JU;⟨o,Heap.get?_push_of_some _ e,r⟩;wp_walk using wpAny_pyIter_list hL1,wpAny_pyIter_tuple hL2;refine ⟨_,rfl,?_⟩;have sp:∀ (h:Heap) (o:Obj),(h.push o).objs.size=h.objs.size + 1:=λh o=>Heap.size_push ..;have h':=h (((((hp.push { cls:=.type "list_iterator", data:=.fields #[.ref l1,.int 0 0] }).push { cls:=.type "tuple_iterator", data:=.fields #[.ref l2,.int 0 0] }).push { cls:=.type "tuple", data:=.seq #[.ref hp.objs.size,.ref (hp.objs.size + 1)] }).push { cls:=.type "tuple", data:=.seq #[.none,.none] }).push { cls:=.type "zip", data:=.fields #[.none,.bool false,.bool false,.ref (hp.objs.size + 2),.ref (hp.objs.size + 3)] })
   (by show Heap.get? _ (hp.objs.size + 4)=_;rw [show hp.objs.size + 4=((((hp.push { cls:=.type "list_iterator", data:=.fields #[.ref l1,.int 0 0] }).push { cls:=.type "tuple_iterator", data:=.fields #[.ref l2,.int 0 0] }).push { cls:=.type "tuple", data:=.seq #[.ref hp.objs.size,.ref (hp.objs.size + 1)] }).push { cls:=.type "tuple", data:=.seq #[.none,.none] }).objs.size from by simp only [sp]];exact Heap.get?_push_size _ rfl)
   (by
    refine Heap.get?_push_of_some _ (Heap.get?_push_of_some _ ?_);show Heap.get? _ (hp.objs.size + 2)=_;rw [show hp.objs.size + 2=((hp.push { cls:=.type "list_iterator", data:=.fields #[.ref l1,.int 0 0] }).push { cls:=.type "tuple_iterator", data:=.fields #[.ref l2,.int 0 0] }).objs.size from by simp only [sp]];exact Heap.get?_push_size _ rfl)
   (by
    refine Heap.get?_push_of_some _ ?_;show Heap.get? _ (hp.objs.size + 3)=_;rw [show hp.objs.size + 3=(((hp.push { cls:=.type "list_iterator", data:=.fields #[.ref l1,.int 0 0] }).push { cls:=.type "tuple_iterator", data:=.fields #[.ref l2,.int 0 0] }).push { cls:=.type "tuple", data:=.seq #[.ref hp.objs.size,.ref (hp.objs.size + 1)] }).objs.size from by simp only [sp]];exact Heap.get?_push_size _ rfl)
   ⟨_,Heap.get?_push_of_some _ (Heap.get?_push_of_some _ (Heap.get?_push_of_some _ (Heap.get?_push_of_some _ (Heap.get?_push_size _ rfl)))),rfl,rfl⟩
   ⟨{ cls:=.type "tuple_iterator", data:=.fields #[.ref l2,.int 0 0] },(by
    refine Heap.get?_push_of_some _ (Heap.get?_push_of_some _ (Heap.get?_push_of_some _ ?_));show Heap.get? _ (hp.objs.size + 1)=_;rw [show hp.objs.size + 1=(hp.push { cls:=.type "list_iterator", data:=.fields #[.ref l1,.int 0 0] }).objs.size from by simp only [sp]];exact Heap.get?_push_size _ rfl),rfl,rfl⟩
   (λc o x=>Heap.get?_push_of_some _ (Heap.get?_push_of_some _ (Heap.get?_push_of_some _ (Heap.get?_push_of_some _ (Heap.get?_push_of_some _ x)))))
  simp only [sp] at h' ⊢;exact h'
section
variable {prog:Program}{w:World}{A:Around}{E:Value->Shared->Prop}{s:Shared}
variable {z TI TO i1 i2:Addr} {vj vh:List Addr}{n:Nat} {P1 P2:Nat->Value->Prop} {S1 S2:Nat->Heap->Prop}
theorem ZD.mix {l1 l2:Addr}(hh:A.handled=none)(ne:TI≠z/\TO≠z/\i1≠z/\i2≠z/\TI≠TO/\TI≠i1/\TI≠i2/\TO≠i1/\TO≠i2/\i1≠i2)(a1:∀ x∈[z,TO,i1,i2],l1≠x)(a2:∀ x∈[z,TO,i1,i2],l2≠x){xs ys:Array Value}(hs:ys.size=xs.size) :
  ZD prog w A z TI TO i1 i2 [i1,l1] [i2,l2] xs.size (λi v=>xs[i]?=some v) (λi v=>ys[i]?=some v) (λi h=>h.IsListIter i1 l1 i/\h.IsList l1 xs) (λi h=>h.IsTupleIter i2 l2 i/\h.IsTuple l2 ys) where
 d1:=Draws.list hh i1 l1 (a1 _ (by simp)) xs
 d2:=hs ▸ Ma hh i2 l2 (a2 _ (by simp)) ys
 ne:=ne
 f1:=by
  obtain ⟨n1,n2,n3,n4,n5,n6,n7,n8,n9,Lc⟩:=ne;have b1:=a1 z (by simp);have b2:=a1 TO (by simp);have b3:=a1 i2 (by simp);simp only [zG,zK,or_false,not_or];exact ⟨⟨n3.symm,b1.symm⟩,⟨n8,b2.symm⟩,Lc.symm,b3.symm⟩
 f2:=by
  obtain ⟨n1,n2,n3,n4,n5,n6,n7,n8,n9,Lc⟩:=ne;have b1:=a2 z (by simp);have b2:=a2 TO (by simp);have b3:=a2 i1 (by simp);simp only [zG,zK,or_false,not_or];exact ⟨⟨n4.symm,b1.symm⟩,⟨n9,b2.symm⟩,Lc,b3.symm⟩
end
def Sn (K:PySem.W.Frag)(a b:Addr):It:=
 ⟨λi H=>∃ xs ys x y,aB K H a xs/\aX K H b ys/\xs.length=ys.length/\xs[i]?=some x/\ys[i]?=some y,λi H v H'=>∃ p x y,H p=none/\v=.ref p/\H'=upd H p (.tup [x,y])/\∀ xs ys,aB K H a xs->aX K H b ys->xs[i]?=some x/\ys[i]?=some y,
  λi H=>∃ xs ys,aB K H a xs/\aX K H b ys/\xs.length=ys.length/\xs.length=i⟩
theorem vE {P:Program}{w:World}{K:PySem.W.Frag}{es:List Expr}{k:Nat}{pos:Pos}(l1 l2 z TI TO i1 i2:Addr)(ap:ZN z TI TO i1 i2)(a1:∀ x∈[z,TO,i1,i2],l1≠x)(a2:∀ x∈[z,TO,i1,i2],l2≠x) :
  Turn P w K (.Tuple es k pos) (Sn K l1 l2) [z,TI,TO,i1,i2] z (λi h=>IsZip h z TI TO .none/\IsPair h TI (.ref i1) (.ref i2)/\(∃ a b,IsPair h TO a b)/\h.IsListIter i1 l1 i/\h.IsTupleIter i2 l2 i) where
 mem:=by simp
 obj:=λi h st b hb=>by
  obtain ⟨hz,eH,⟨a,c,fB⟩,⟨o1,g1,c1,d1⟩,⟨o2,g2,c2,d2⟩⟩:=st;simp only [zG,zK,or_false] at hb;rcases hb with e | e | e | e | e <;> subst e
  ·exact ⟨_,hz,λv q=>nomatch q⟩
  ·exact ⟨_,eH,λv q=>nomatch q⟩
  ·exact ⟨_,fB,λv q=>nomatch q⟩
  ·exact ⟨o1,g1,λv q=>by rw [d1] at q;cases q⟩
  ·exact ⟨o2,g2,λv q=>by rw [d2] at q;cases q⟩
 keep:=λi h h' st q=>by
  obtain ⟨hz,eH,⟨a,c,fB⟩,⟨o1,g1,r1⟩,⟨o2,g2,r2⟩⟩:=st;exact ⟨q z (by simp) _ hz,q TI (by simp) _ eH,⟨a,c,q TO (by simp) _ fB⟩,⟨o1,q i1 (by simp) o1 g1,r1⟩,⟨o2,q i2 (by simp) o2 g2,r2⟩⟩
 item:=by
  intro X hP hw hK hc i ai s σ H E I hf st hg;subst hP hw hK;obtain ⟨xs,ys,x,y,mF,mE,el,hx,hy⟩:=hg;obtain ⟨di,rT,p1,gA⟩:=I.list mF;obtain ⟨bR,rS,p2,nO⟩:=I.tuple mE;obtain ⟨u,hu,ru⟩:=rT.get hx;obtain ⟨v,hv,rv⟩:=rS.get hy;obtain ⟨hZ,eH,⟨a0,c0,fB⟩,mH,kL⟩:=st;have t1:s.heap.IsList l1 di.toArray:=p1.isList;have t2:s.heap.IsTuple l2 bR.toArray:=p2;have fp:=λb hb=>hf b hb;have lt:∀ b,b∈[z,TI,TO,i1,i2]->b < s.heap.objs.size:=λb hb=>by
   simp only [zG,zK,or_false] at hb;rcases hb with e | e | e | e | e <;> subst e
   ·exact Heap.lt_size hZ
   ·exact Heap.lt_size eH
   ·exact Heap.lt_size fB
   ·exact let ⟨_,z,_⟩:=mH;Heap.lt_size z
   ·exact let ⟨_,z,_⟩:=kL;Heap.lt_size z
  have Zb:l1 < s.heap.objs.size:=let ⟨_,z,_⟩:=t1;Heap.lt_size z;have Za:l2 < s.heap.objs.size:=let ⟨_,z,_⟩:=t2;Heap.lt_size z;have e1:=rT.length;have e2:=rS.length;have ix:=(zQ.mp hu).1;refine oJ (ZD.mix (A:=X.A.in1) (I.ok.hd hc) ap a1 a2 (xs:=di.toArray) (ys:=bR.toArray) (by simp;omega)) (by simpa using ix) hZ eH fB ⟨mH,t1⟩ ⟨kL,t2⟩ (λu' v' h1 tk ZV Lx U1 LM JT qw hT Wm hk=>?_) (λb hb=>?_) (λb hb=>?_)
  rotate_left
  ·simp only [zG,zK,or_false] at hb;rcases hb with e | e
   ·rw [e];exact lt i1 (by simp)
   ·rw [e];exact Zb
  ·simp only [zG,zK,or_false] at hb;rcases hb with e | e
   ·rw [e];exact lt i2 (by simp)
   ·rw [e];exact Za
  obtain rfl:u=u':=by
   have q:di.toArray[i]?=some u:=by simpa using hu
   exact Option.some.inj (q.symm.trans ZV)
  obtain rfl:v=v':=by
   have q:bR.toArray[i]?=some v:=by simpa using hv
   exact Option.some.inj (q.symm.trans Lx)
  refine ⟨_,rfl,?_⟩;refine wpAny_letOwnedTupleGo_zip U1 λh2 U0 eG=>?_
  replace eG:Heap.SameBut z h1 h2:=eG
  obtain ⟨n1,n2,n3,n4,n5,n6,n7,n8,n9,Lc⟩:=ap;have bG:∀ b o,b ∉ [z,TO,i1,i2]->s.heap.get? b=some o->h2.get? b=some o:=λb o hb q=>by
   simp only [zG,zK,or_false,not_or] at hb;exact eG.extBut b o hb.1 (hk b o hb.1 hb.2.1 hb.2.2.1 hb.2.2.2 q)
  have Pa:h2.get? s.heap.objs.size=some { cls:=.type "tuple", data:=.seq #[u,v] }:=eG.extBut _ _ (yf (lt z (by simp))) hT;have nT:H s.heap.objs.size=none:=I.bh.fresh (zJ _);have sub:∀ b,b∈[z,TO,i1,i2]->b∈[z,TI,TO,i1,i2]:=λb hb=>by
   simp only [zG,zK,or_false] at hb ⊢;rcases hb with e | e | e | e <;> simp [e]
  refine ⟨.ref s.heap.objs.size,upd H s.heap.objs.size (.tup [x,y]),?_,rfl,⟨_,x,y,nT,rfl,rfl,λys' zs' h1 h2=>by rw [I.fS h1 mF,I.iU h2 mE];exact ⟨hx,hy⟩⟩,⟨U0,?_,⟨u,v,?_⟩,?_,?_⟩,λb hb=>?_⟩
  ·refine Inv.step (s:=s) (h':=h2) (g':=s.gens) (d':=s.drawn) (t':=tk) (ch:=[z,TO,i1,i2]) I (λb hb=>?_) (λb o _ _ hb q _=>bG b o hb q) (λb o _ _ hb q _=>⟨o.slots,bG b o hb q⟩)
    (λb o _ q n=>by rw [xj (zt (Heap.lt_size q))];exact n) (λb o hb q=>⟨o,bG b o hb q⟩)
    (λb ys q=>by rw [xj (xV q nT)];exact q) (λb o v q=>by rw [xj (xV q nT)];exact q) (λb ps q=>⟨#[],by rw [xj (xV q nT),q];simp⟩)
    (λm hm=>by
     obtain ⟨o,gO,ep,q,r⟩:=hm;exact ⟨o,gO,ep,bG _ o (λhb=>(fp _ (sub _ hb)).2.1 rfl) q,r⟩) (λb v' q=>?_) I.bare
   ·obtain ⟨e0,e1,e2,e3,e4,e5⟩:=fp b (sub b hb);exact ⟨e3,e1,e4,e5⟩
   ·by_cases hb:b=s.heap.objs.size
    ·subst hb;rw [xQ] at q;cases q;exact ⟨⟨by show 2<=sizeLine;rw [sizeLine_eq];decide,λob e=>by rw [Pa] at e;cases e;rfl⟩,[u,v],.cons ru (.cons rv .nil),⟨_,Pa,rfl,_,rfl⟩⟩
    ·rw [xj hb] at q;refine (I.bh b v' q).gG (λc ob hc qc=>bG c ob (λhb=>?_) qc) (λc qc=>by rw [xj (xV qc nT)];exact qc) λc ys qc=>by rw [xj (xV qc nT)];exact qc
     have e0:=(fp c (sub c hb)).1;rcases hc with z | z
     ·subst z;exact xV q e0 rfl
     ·exact xV z e0 rfl
  ·exact bG _ _ (by simp only [zG,zK,or_false,not_or];exact ⟨n1,n5,n6,n7⟩) eH
  ·exact eG.extBut _ _ n2 LM
  ·obtain ⟨o,q,r⟩:=JT.1;exact ⟨o,eG.extBut i1 o n3 q,r⟩
  ·obtain ⟨o,q,r⟩:=qw.1;exact ⟨o,eG.extBut i2 o n4 q,r⟩
  ·rw [xj (zt (lt b hb))];exact (fp b hb).1
 done:=by
  intro X hP hw hK hc i ai s σ H E I hf st hg;subst hP hw hK;obtain ⟨xs,ys,mF,mE,el,hx⟩:=hg;obtain ⟨di,rT,p1,gA⟩:=I.list mF;obtain ⟨bR,rS,p2,nO⟩:=I.tuple mE;obtain ⟨hZ,eH,⟨a0,c0,fB⟩,mH,kL⟩:=st;have t1:s.heap.IsList l1 di.toArray:=p1.isList;have l1':=rT.length;have l2':=rS.length;have en:i=di.toArray.size:=by simp;omega
  subst en;have sub:∀ b,b∈[z,TO,i1,i2]->b∈[z,TI,TO,i1,i2]:=λb hb=>by
   simp only [zG,zK,or_false] at hb ⊢;rcases hb with e | e | e | e <;> simp [e]
  refine ua (ZD.mix (A:=X.A.in1) (I.ok.hd hc) ap a1 a2 (xs:=di.toArray) (ys:=bR.toArray) (by simp;omega)) hZ eH fB ⟨mH,t1⟩ λh' hk=>⟨rfl,?_⟩;have bG:∀ b o,b ∉ [z,TO,i1,i2]->s.heap.get? b=some o->h'.get? b=some o:=λb o hb q=>by
   simp only [zG,zK,or_false,not_or] at hb;exact hk b o hb.1 hb.2.1 hb.2.2.1 hb.2.2.2 q
  refine Inv.step (s:=s) (h':=h') (g':=s.gens) (d':=s.drawn) (t':=s.toks) (ch:=[z,TO,i1,i2]) I (λb hb=>?_) (λb o _ _ hb q _=>bG b o hb q) (λb o _ _ hb q _=>⟨o.slots,bG b o hb q⟩)
    (λb o _ q n=>n) (λb o hb q=>⟨o,bG b o hb q⟩)
    (λb ys q=>q) (λb o v q=>q) (λb ps q=>⟨#[],by rw [q];simp⟩)
    (λm hm=>by
     obtain ⟨o,gO,ep,q,r⟩:=hm;exact ⟨o,gO,ep,bG _ o (λhb=>(hf _ (sub _ hb)).2.1 rfl) q,r⟩) (λb v' q=>?_) I.bare
  ·obtain ⟨e0,e1,e2,e3,e4,e5⟩:=hf b (sub b hb);exact ⟨e3,e1,e4,e5⟩
  ·refine (I.bh b v' q).gG (λc ob hc qc=>bG c ob (λhb=>?_) qc) (λc qc=>qc) λc ys qc=>qc;have e0:=(hf c (sub c hb)).1;rcases hc with z | z
   ·subst z;exact xV q e0 rfl
   ·exact xV z e0 rfl
 self:=λ_ _ _ _ _ st h=>wpAny_pyIter_zip st.1 h
def Ur (K:PySem.W.Frag)(ta:TA):TI:=fun σ H R=>ta σ H λvs H1=>∃ a b,vs=[.ref a,.ref b]/\(∃ xs,aB K H1 a xs)/\(∃ ys,aX K H1 b ys)/\R (Sn K a b) H1
theorem NJ {X:Cx}{a b:Expr}{ta:TA}{p pos KS:Pos}{es:List Expr}{k:Nat}{K:PySem.W.Frag}(hK:X.K=K)(hg:Gl X "zip")(hm:X.mg "zip" = none)(ha:PA X [a,b] ta)
  (hs:starEach [a,b] X.env=(false,eval a X.env)::starEach [b] X.env:=by rfl) (qw:starEach [b] X.env=[(false,eval b X.env)]:=by rfl) :
  PI X (.Tuple es k KS) (.Call (.Name "zip" p) [a,b] [] pos) (Ur K ta):=by
 subst hK;intro ai s σ H R I h;refine Call_ (fT I hg hm boot_zip (yT (aZ (ha pos ai s σ H _ I h) λus s1 ⟨vs,H1,I1,r1,q1⟩=>?_) (by rw [hs,qw]) (by rw [qw];rfl)));obtain ⟨l1,l2,e,⟨xs,mF⟩,⟨ys,mE⟩,q⟩:=q1;subst e;cases r1 with
 | cons r rr=>
  cases rr with
  | cons r' rr=>
   cases rr;cases r;cases r';obtain ⟨di,rT,p1,gA⟩:=I1.list mF;obtain ⟨bR,rS,p2,nO⟩:=I1.tuple mE;have t1:s1.heap.IsList l1 di.toArray:=p1.isList;have t2:s1.heap.IsTuple l2 bR.toArray:=p2;have NX:l1 < s1.heap.objs.size:=let ⟨_,z,_⟩:=t1;Heap.lt_size z;have NW:l2 < s1.heap.objs.size:=let ⟨_,z,_⟩:=t2;Heap.lt_size z;refine callType_new F.called_zip (by decide) (F.typeCall_zip_2 _ _) (F.newCall_zip_2 _ _) (λobj=>F.args_object_init_3 obj _ _) F.entry_zip_new (J4 l1 l2 di.toArray bR.toArray) ⟨t1,t2,λh' hZ eH fB mH kL hk=>⟨⟨_,hZ,rfl⟩,?_⟩⟩;refine wpAny_pyIter_zip hZ ?_;have I2:Inv X ai σ H1 { s1 with heap:=h' }:=I1.kept (t':=s1.toks) hk;refine ⟨s1.heap.objs.size + 4,[s1.heap.objs.size + 4,s1.heap.objs.size + 2,s1.heap.objs.size + 3,s1.heap.objs.size,s1.heap.objs.size + 1],_,_,H1,rfl,I2,vE l1 l2 _ _ _ _ _ ?_ ?_ ?_,⟨hZ,eH,⟨_,_,fB⟩,mH,kL⟩,λb hb=>?_,q⟩
   ·have z:=zipApart_new NX NW;exact ⟨z.TIz,z.TOz,z.i1z,z.i2z,z.TITO,z.TIi1,z.TIi2,z.TOi1,z.TOi2,z.i12⟩
   ·intro x hx;have z:=zipApart_new NX NW;simp only [zG,zK,or_false] at hx;rcases hx with e | e | e | e <;> subst e
    ·exact z.l1z
    ·exact z.l1TO
    ·exact z.l1i1
    ·exact z.l1i2
   ·intro x hx;have z:=zipApart_new NX NW;simp only [zG,zK,or_false] at hx;rcases hx with e | e | e | e <;> subst e
    ·exact z.l2z
    ·exact z.l2TO
    ·exact z.l2i1
    ·exact z.l2i2
   ·have mJ:s1.heap.objs.size<=b:=by
     simp only [zG,zK,or_false] at hb;rcases hb with e | e | e | e | e <;> rw [e] <;> first | exact zJ _ | exact yj _ _
    exact I1.rj mJ (I1.bh.fresh mJ)
section
variable {K:PySem.W.Frag}{a b:Addr}{xs ys:List V}{n:Nat}{caps:List Nat}{g:TG}{tc:TT}{te:TE}{σ:St}{H:Hp}{Qf:Addr->Hp->List V->Prop}
theorem JD (el:xs.length=ys.length)(Pv:Nat->St->List V->Hp->Prop)(h0:Pv 0 (dG n caps σ) [] H)(hn:xs.length<=1000)(hl:∀ i τ acc H,Pv i τ acc H->acc.length<=i/\aB K H a xs/\aX K H b ys)
  (hs:∀ i x y q τ acc H (C:St->List V->Hp->Prop),xs[i]?=some x->ys[i]?=some y->H q=none->Pv i τ acc H->(∀ τ acc H,Pv (i + 1) τ acc H->C τ acc H)->g (.ref q) τ (upd H q (.tup [x,y])) fun bu H2=>tc bu H2 λb H3=>if b=true then te bu H3 λy H4=>C bu (acc++[y]) H4 else C bu acc H3)
  (hd:∀ τ acc H,Pv xs.length τ acc H->∀ p,H p=none->Qf p H acc) :
  ∃ W:Nat->Nat->St->List V->Hp->Prop,(∃ m,W 0 m (dG n caps σ) [] H)/\∀ i m τ acc H,W i m τ acc H ->
   ((Sn K a b).stop i H/\acc.length<=sizeLine/\∀ p,H p=none->Qf p H acc) \/
   ((Sn K a b).go i H/\acc.length < sizeLine/\∀ x H',(Sn K a b).oA i H x H'->g x τ H' fun bu H2=>tc bu H2 λb H3=>if b=true then te bu H3 λy H4=>∃ m',m' < m/\W (i + 1) m' bu (acc++[y]) H4 else ∃ m',m' < m/\W (i + 1) m' bu acc H3):=
 iN (J:=Sn K a b) Pv xs.length h0 hn (λi τ acc H p=>(hl i τ acc H p).1) (λi τ acc H hi p=>⟨xs,ys,xs[i],ys[i]'(by omega),(hl i τ acc H p).2.1,(hl i τ acc H p).2.2,el,by simp [hi],by simp [<-el,hi]⟩) (fun τ acc H p=>⟨xs,ys,(hl _ τ acc H p).2.1,(hl _ τ acc H p).2.2,el,rfl⟩)
  (λi τ acc H C hi p c x H' y=>by obtain ⟨q,x',y',hq,e1,e2,y⟩:=y;subst e1;subst e2;exact hs i x' y' q τ acc _ C (y xs ys (hl i τ acc _ p).2.1 (hl i τ acc _ p).2.2).1 (y xs ys (hl i τ acc _ p).2.1 (hl i τ acc _ p).2.2).2 hq p c) hd
end
theorem J3 (l1 l2:Addr)(xs ys:Array Value) :
  Meets (Builtin.«zip.__new__» ⟨[.type "zip", .ref l1,.ref l2],[]⟩) (λ_ R s=>s.heap.IsTuple l1 xs/\s.heap.IsList l2 ys /\
   ∀ h':Heap,IsZip h' (s.heap.objs.size + 4) (s.heap.objs.size + 2) (s.heap.objs.size + 3) .none->IsPair h' (s.heap.objs.size + 2) (.ref s.heap.objs.size) (.ref (s.heap.objs.size + 1)) ->
   IsPair h' (s.heap.objs.size + 3) .none .none->h'.IsTupleIter s.heap.objs.size l1 0->h'.IsListIter (s.heap.objs.size + 1) l2 0 -> 
   (∀ c o,s.heap.get? c=some o->h'.get? c=some o)->R (.ok (.ret (.ref (s.heap.objs.size + 4)))) { s with heap:=h' }):=
 .of_wp λprog w A R s h=>by
  obtain ⟨hp,g,d,tk,os⟩:=s;obtain ⟨LH,JU,h⟩:=h;have UD:=sub_zip;have hL1:Heap.IsTuple (Shared.heap ⟨hp,g,d,tk,os⟩) l1 xs:=LH;have hL2:Heap.IsList (Shared.heap ⟨hp.push { cls:=.type "tuple_iterator", data:=.fields #[.ref l1,.int 0 0] },g,d,tk,os⟩) l2 ys:=let ⟨o,e,r⟩:=JU;⟨o,Heap.get?_push_of_some _ e,r⟩;wp_walk using wpAny_pyIter_tuple hL1,wpAny_pyIter_list hL2;refine ⟨_,rfl,?_⟩;have sp:∀ (h:Heap) (o:Obj),(h.push o).objs.size=h.objs.size + 1:=λh o=>Heap.size_push ..;have h':=h (((((hp.push { cls:=.type "tuple_iterator", data:=.fields #[.ref l1,.int 0 0] }).push { cls:=.type "list_iterator", data:=.fields #[.ref l2,.int 0 0] }).push { cls:=.type "tuple", data:=.seq #[.ref hp.objs.size,.ref (hp.objs.size + 1)] }).push { cls:=.type "tuple", data:=.seq #[.none,.none] }).push { cls:=.type "zip", data:=.fields #[.none,.bool false,.bool false,.ref (hp.objs.size + 2),.ref (hp.objs.size + 3)] })
   (by show Heap.get? _ (hp.objs.size + 4)=_;rw [show hp.objs.size + 4=((((hp.push { cls:=.type "tuple_iterator", data:=.fields #[.ref l1,.int 0 0] }).push { cls:=.type "list_iterator", data:=.fields #[.ref l2,.int 0 0] }).push { cls:=.type "tuple", data:=.seq #[.ref hp.objs.size,.ref (hp.objs.size + 1)] }).push { cls:=.type "tuple", data:=.seq #[.none,.none] }).objs.size from by simp only [sp]];exact Heap.get?_push_size _ rfl)
   (by
    refine Heap.get?_push_of_some _ (Heap.get?_push_of_some _ ?_);show Heap.get? _ (hp.objs.size + 2)=_;rw [show hp.objs.size + 2=((hp.push { cls:=.type "tuple_iterator", data:=.fields #[.ref l1,.int 0 0] }).push { cls:=.type "list_iterator", data:=.fields #[.ref l2,.int 0 0] }).objs.size from by simp only [sp]];exact Heap.get?_push_size _ rfl)
   (by
    refine Heap.get?_push_of_some _ ?_;show Heap.get? _ (hp.objs.size + 3)=_;rw [show hp.objs.size + 3=(((hp.push { cls:=.type "tuple_iterator", data:=.fields #[.ref l1,.int 0 0] }).push { cls:=.type "list_iterator", data:=.fields #[.ref l2,.int 0 0] }).push { cls:=.type "tuple", data:=.seq #[.ref hp.objs.size,.ref (hp.objs.size + 1)] }).objs.size from by simp only [sp]];exact Heap.get?_push_size _ rfl)
   ⟨_,Heap.get?_push_of_some _ (Heap.get?_push_of_some _ (Heap.get?_push_of_some _ (Heap.get?_push_of_some _ (Heap.get?_push_size _ rfl)))),rfl,rfl⟩
   ⟨{ cls:=.type "list_iterator", data:=.fields #[.ref l2,.int 0 0] },(by
    refine Heap.get?_push_of_some _ (Heap.get?_push_of_some _ (Heap.get?_push_of_some _ ?_));show Heap.get? _ (hp.objs.size + 1)=_;rw [show hp.objs.size + 1=(hp.push { cls:=.type "tuple_iterator", data:=.fields #[.ref l1,.int 0 0] }).objs.size from by simp only [sp]];exact Heap.get?_push_size _ rfl),rfl,rfl⟩
   (λc o x=>Heap.get?_push_of_some _ (Heap.get?_push_of_some _ (Heap.get?_push_of_some _ (Heap.get?_push_of_some _ (Heap.get?_push_of_some _ x)))))
  simp only [sp] at h' ⊢;exact h'
section
variable {prog:Program}{w:World}{A:Around}{E:Value->Shared->Prop}{s:Shared}
variable {z TI TO i1 i2:Addr} {vj vh:List Addr}{n:Nat} {P1 P2:Nat->Value->Prop} {S1 S2:Nat->Heap->Prop}
theorem ZD.Tu {l1 l2:Addr}(hh:A.handled=none)(ne:TI≠z/\TO≠z/\i1≠z/\i2≠z/\TI≠TO/\TI≠i1/\TI≠i2/\TO≠i1/\TO≠i2/\i1≠i2)(a1:∀ x∈[z,TO,i1,i2],l1≠x)(a2:∀ x∈[z,TO,i1,i2],l2≠x){xs ys:Array Value}(hs:ys.size=xs.size) :
  ZD prog w A z TI TO i1 i2 [i1,l1] [i2,l2] xs.size (λi v=>xs[i]?=some v) (λi v=>ys[i]?=some v) (λi h=>h.IsTupleIter i1 l1 i/\h.IsTuple l1 xs) (λi h=>h.IsListIter i2 l2 i/\h.IsList l2 ys) where
 d1:=Ma hh i1 l1 (a1 _ (by simp)) xs
 d2:=hs ▸ Draws.list hh i2 l2 (a2 _ (by simp)) ys
 ne:=ne
 f1:=by
  obtain ⟨n1,n2,n3,n4,n5,n6,n7,n8,n9,Lc⟩:=ne;have b1:=a1 z (by simp);have b2:=a1 TO (by simp);have b3:=a1 i2 (by simp);simp only [zG,zK,or_false,not_or];exact ⟨⟨n3.symm,b1.symm⟩,⟨n8,b2.symm⟩,Lc.symm,b3.symm⟩
 f2:=by
  obtain ⟨n1,n2,n3,n4,n5,n6,n7,n8,n9,Lc⟩:=ne;have b1:=a2 z (by simp);have b2:=a2 TO (by simp);have b3:=a2 i1 (by simp);simp only [zG,zK,or_false,not_or];exact ⟨⟨n4.symm,b1.symm⟩,⟨n9,b2.symm⟩,Lc,b3.symm⟩
end
def Vu (K:PySem.W.Frag)(a b:Addr):It:=
 ⟨λi H=>∃ xs ys x y,aX K H a xs/\aB K H b ys/\xs.length=ys.length/\xs[i]?=some x/\ys[i]?=some y,λi H v H'=>∃ p x y,H p=none/\v=.ref p/\H'=upd H p (.tup [x,y])/\∀ xs ys,aX K H a xs->aB K H b ys->xs[i]?=some x/\ys[i]?=some y,
  λi H=>∃ xs ys,aX K H a xs/\aB K H b ys/\xs.length=ys.length/\xs.length=i⟩
theorem vD {P:Program}{w:World}{K:PySem.W.Frag}{es:List Expr}{k:Nat}{pos:Pos}(l1 l2 z TI TO i1 i2:Addr)(ap:ZN z TI TO i1 i2)(a1:∀ x∈[z,TO,i1,i2],l1≠x)(a2:∀ x∈[z,TO,i1,i2],l2≠x) :
  Turn P w K (.Tuple es k pos) (Vu K l1 l2) [z,TI,TO,i1,i2] z (λi h=>IsZip h z TI TO .none/\IsPair h TI (.ref i1) (.ref i2)/\(∃ a b,IsPair h TO a b)/\h.IsTupleIter i1 l1 i/\h.IsListIter i2 l2 i) where
 mem:=by simp
 obj:=λi h st b hb=>by
  obtain ⟨hz,eH,⟨a,c,fB⟩,⟨o1,g1,c1,d1⟩,⟨o2,g2,c2,d2⟩⟩:=st;simp only [zG,zK,or_false] at hb;rcases hb with e | e | e | e | e <;> subst e
  ·exact ⟨_,hz,λv q=>nomatch q⟩
  ·exact ⟨_,eH,λv q=>nomatch q⟩
  ·exact ⟨_,fB,λv q=>nomatch q⟩
  ·exact ⟨o1,g1,λv q=>by rw [d1] at q;cases q⟩
  ·exact ⟨o2,g2,λv q=>by rw [d2] at q;cases q⟩
 keep:=λi h h' st q=>by
  obtain ⟨hz,eH,⟨a,c,fB⟩,⟨o1,g1,r1⟩,⟨o2,g2,r2⟩⟩:=st;exact ⟨q z (by simp) _ hz,q TI (by simp) _ eH,⟨a,c,q TO (by simp) _ fB⟩,⟨o1,q i1 (by simp) o1 g1,r1⟩,⟨o2,q i2 (by simp) o2 g2,r2⟩⟩
 item:=by
  intro X hP hw hK hc i ai s σ H E I hf st hg;subst hP hw hK;obtain ⟨xs,ys,x,y,mF,mE,el,hx,hy⟩:=hg;obtain ⟨di,rT,p1,gA⟩:=I.tuple mF;obtain ⟨bR,rS,p2,nO⟩:=I.list mE;obtain ⟨u,hu,ru⟩:=rT.get hx;obtain ⟨v,hv,rv⟩:=rS.get hy;obtain ⟨hZ,eH,⟨a0,c0,fB⟩,mH,kL⟩:=st;have t1:s.heap.IsTuple l1 di.toArray:=p1;have t2:s.heap.IsList l2 bR.toArray:=p2.isList;have fp:=λb hb=>hf b hb;have lt:∀ b,b∈[z,TI,TO,i1,i2]->b < s.heap.objs.size:=λb hb=>by
   simp only [zG,zK,or_false] at hb;rcases hb with e | e | e | e | e <;> subst e
   ·exact Heap.lt_size hZ
   ·exact Heap.lt_size eH
   ·exact Heap.lt_size fB
   ·exact let ⟨_,z,_⟩:=mH;Heap.lt_size z
   ·exact let ⟨_,z,_⟩:=kL;Heap.lt_size z
  have Zb:l1 < s.heap.objs.size:=let ⟨_,z,_⟩:=t1;Heap.lt_size z;have Za:l2 < s.heap.objs.size:=let ⟨_,z,_⟩:=t2;Heap.lt_size z;have e1:=rT.length;have e2:=rS.length;have ix:=(zQ.mp hu).1;refine oJ (ZD.Tu (A:=X.A.in1) (I.ok.hd hc) ap a1 a2 (xs:=di.toArray) (ys:=bR.toArray) (by simp;omega)) (by simpa using ix) hZ eH fB ⟨mH,t1⟩ ⟨kL,t2⟩ (λu' v' h1 tk ZV Lx U1 LM JT qw hT Wm hk=>?_) (λb hb=>?_) (λb hb=>?_)
  rotate_left
  ·simp only [zG,zK,or_false] at hb;rcases hb with e | e
   ·rw [e];exact lt i1 (by simp)
   ·rw [e];exact Zb
  ·simp only [zG,zK,or_false] at hb;rcases hb with e | e
   ·rw [e];exact lt i2 (by simp)
   ·rw [e];exact Za
  obtain rfl:u=u':=by
   have q:di.toArray[i]?=some u:=by simpa using hu
   exact Option.some.inj (q.symm.trans ZV)
  obtain rfl:v=v':=by
   have q:bR.toArray[i]?=some v:=by simpa using hv
   exact Option.some.inj (q.symm.trans Lx)
  refine ⟨_,rfl,?_⟩;refine wpAny_letOwnedTupleGo_zip U1 λh2 U0 eG=>?_
  replace eG:Heap.SameBut z h1 h2:=eG
  obtain ⟨n1,n2,n3,n4,n5,n6,n7,n8,n9,Lc⟩:=ap;have bG:∀ b o,b ∉ [z,TO,i1,i2]->s.heap.get? b=some o->h2.get? b=some o:=λb o hb q=>by
   simp only [zG,zK,or_false,not_or] at hb;exact eG.extBut b o hb.1 (hk b o hb.1 hb.2.1 hb.2.2.1 hb.2.2.2 q)
  have Pa:h2.get? s.heap.objs.size=some { cls:=.type "tuple", data:=.seq #[u,v] }:=eG.extBut _ _ (yf (lt z (by simp))) hT;have nT:H s.heap.objs.size=none:=I.bh.fresh (zJ _);have sub:∀ b,b∈[z,TO,i1,i2]->b∈[z,TI,TO,i1,i2]:=λb hb=>by
   simp only [zG,zK,or_false] at hb ⊢;rcases hb with e | e | e | e <;> simp [e]
  refine ⟨.ref s.heap.objs.size,upd H s.heap.objs.size (.tup [x,y]),?_,rfl,⟨_,x,y,nT,rfl,rfl,λys' zs' h1 h2=>by rw [I.iU h1 mF,I.fS h2 mE];exact ⟨hx,hy⟩⟩,⟨U0,?_,⟨u,v,?_⟩,?_,?_⟩,λb hb=>?_⟩
  ·refine Inv.step (s:=s) (h':=h2) (g':=s.gens) (d':=s.drawn) (t':=tk) (ch:=[z,TO,i1,i2]) I (λb hb=>?_) (λb o _ _ hb q _=>bG b o hb q) (λb o _ _ hb q _=>⟨o.slots,bG b o hb q⟩)
    (λb o _ q n=>by rw [xj (zt (Heap.lt_size q))];exact n) (λb o hb q=>⟨o,bG b o hb q⟩)
    (λb ys q=>by rw [xj (xV q nT)];exact q) (λb o v q=>by rw [xj (xV q nT)];exact q) (λb ps q=>⟨#[],by rw [xj (xV q nT),q];simp⟩)
    (λm hm=>by
     obtain ⟨o,gO,ep,q,r⟩:=hm;exact ⟨o,gO,ep,bG _ o (λhb=>(fp _ (sub _ hb)).2.1 rfl) q,r⟩) (λb v' q=>?_) I.bare
   ·obtain ⟨e0,e1,e2,e3,e4,e5⟩:=fp b (sub b hb);exact ⟨e3,e1,e4,e5⟩
   ·by_cases hb:b=s.heap.objs.size
    ·subst hb;rw [xQ] at q;cases q;exact ⟨⟨by show 2<=sizeLine;rw [sizeLine_eq];decide,λob e=>by rw [Pa] at e;cases e;rfl⟩,[u,v],.cons ru (.cons rv .nil),⟨_,Pa,rfl,_,rfl⟩⟩
    ·rw [xj hb] at q;refine (I.bh b v' q).gG (λc ob hc qc=>bG c ob (λhb=>?_) qc) (λc qc=>by rw [xj (xV qc nT)];exact qc) λc ys qc=>by rw [xj (xV qc nT)];exact qc
     have e0:=(fp c (sub c hb)).1;rcases hc with z | z
     ·subst z;exact xV q e0 rfl
     ·exact xV z e0 rfl
  ·exact bG _ _ (by simp only [zG,zK,or_false,not_or];exact ⟨n1,n5,n6,n7⟩) eH
  ·exact eG.extBut _ _ n2 LM
  ·obtain ⟨o,q,r⟩:=JT.1;exact ⟨o,eG.extBut i1 o n3 q,r⟩
  ·obtain ⟨o,q,r⟩:=qw.1;exact ⟨o,eG.extBut i2 o n4 q,r⟩
  ·rw [xj (zt (lt b hb))];exact (fp b hb).1
 done:=by
  intro X hP hw hK hc i ai s σ H E I hf st hg;subst hP hw hK;obtain ⟨xs,ys,mF,mE,el,hx⟩:=hg;obtain ⟨di,rT,p1,gA⟩:=I.tuple mF;obtain ⟨bR,rS,p2,nO⟩:=I.list mE;obtain ⟨hZ,eH,⟨a0,c0,fB⟩,mH,kL⟩:=st;have t1:s.heap.IsTuple l1 di.toArray:=p1;have l1':=rT.length;have l2':=rS.length;have en:i=di.toArray.size:=by simp;omega
  subst en;have sub:∀ b,b∈[z,TO,i1,i2]->b∈[z,TI,TO,i1,i2]:=λb hb=>by
   simp only [zG,zK,or_false] at hb ⊢;rcases hb with e | e | e | e <;> simp [e]
  refine ua (ZD.Tu (A:=X.A.in1) (I.ok.hd hc) ap a1 a2 (xs:=di.toArray) (ys:=bR.toArray) (by simp;omega)) hZ eH fB ⟨mH,t1⟩ λh' hk=>⟨rfl,?_⟩;have bG:∀ b o,b ∉ [z,TO,i1,i2]->s.heap.get? b=some o->h'.get? b=some o:=λb o hb q=>by
   simp only [zG,zK,or_false,not_or] at hb;exact hk b o hb.1 hb.2.1 hb.2.2.1 hb.2.2.2 q
  refine Inv.step (s:=s) (h':=h') (g':=s.gens) (d':=s.drawn) (t':=s.toks) (ch:=[z,TO,i1,i2]) I (λb hb=>?_) (λb o _ _ hb q _=>bG b o hb q) (λb o _ _ hb q _=>⟨o.slots,bG b o hb q⟩)
    (λb o _ q n=>n) (λb o hb q=>⟨o,bG b o hb q⟩)
    (λb ys q=>q) (λb o v q=>q) (λb ps q=>⟨#[],by rw [q];simp⟩)
    (λm hm=>by
     obtain ⟨o,gO,ep,q,r⟩:=hm;exact ⟨o,gO,ep,bG _ o (λhb=>(hf _ (sub _ hb)).2.1 rfl) q,r⟩) (λb v' q=>?_) I.bare
  ·obtain ⟨e0,e1,e2,e3,e4,e5⟩:=hf b (sub b hb);exact ⟨e3,e1,e4,e5⟩
  ·refine (I.bh b v' q).gG (λc ob hc qc=>bG c ob (λhb=>?_) qc) (λc qc=>qc) λc ys qc=>qc;have e0:=(hf c (sub c hb)).1;rcases hc with z | z
   ·subst z;exact xV q e0 rfl
   ·exact xV z e0 rfl
 self:=λ_ _ _ _ _ st h=>wpAny_pyIter_zip st.1 h
def Uq (K:PySem.W.Frag)(ta:TA):TI:=fun σ H R=>ta σ H λvs H1=>∃ a b,vs=[.ref a,.ref b]/\(∃ xs,aX K H1 a xs)/\(∃ ys,aB K H1 b ys)/\R (Vu K a b) H1
theorem NI {X:Cx}{a b:Expr}{ta:TA}{p pos KS:Pos}{es:List Expr}{k:Nat}{K:PySem.W.Frag}(hK:X.K=K)(hg:Gl X "zip")(hm:X.mg "zip" = none)(ha:PA X [a,b] ta)
  (hs:starEach [a,b] X.env=(false,eval a X.env)::starEach [b] X.env:=by rfl) (qw:starEach [b] X.env=[(false,eval b X.env)]:=by rfl) :
  PI X (.Tuple es k KS) (.Call (.Name "zip" p) [a,b] [] pos) (Uq K ta):=by
 subst hK;intro ai s σ H R I h;refine Call_ (fT I hg hm boot_zip (yT (aZ (ha pos ai s σ H _ I h) λus s1 ⟨vs,H1,I1,r1,q1⟩=>?_) (by rw [hs,qw]) (by rw [qw];rfl)));obtain ⟨l1,l2,e,⟨xs,mF⟩,⟨ys,mE⟩,q⟩:=q1;subst e;cases r1 with
 | cons r rr=>
  cases rr with
  | cons r' rr=>
   cases rr;cases r;cases r';obtain ⟨di,rT,p1,gA⟩:=I1.tuple mF;obtain ⟨bR,rS,p2,nO⟩:=I1.list mE;have t1:s1.heap.IsTuple l1 di.toArray:=p1;have t2:s1.heap.IsList l2 bR.toArray:=p2.isList;have NX:l1 < s1.heap.objs.size:=let ⟨_,z,_⟩:=t1;Heap.lt_size z;have NW:l2 < s1.heap.objs.size:=let ⟨_,z,_⟩:=t2;Heap.lt_size z;refine callType_new F.called_zip (by decide) (F.typeCall_zip_2 _ _) (F.newCall_zip_2 _ _) (λobj=>F.args_object_init_3 obj _ _) F.entry_zip_new (J3 l1 l2 di.toArray bR.toArray) ⟨t1,t2,λh' hZ eH fB mH kL hk=>⟨⟨_,hZ,rfl⟩,?_⟩⟩;refine wpAny_pyIter_zip hZ ?_;have I2:Inv X ai σ H1 { s1 with heap:=h' }:=I1.kept (t':=s1.toks) hk;refine ⟨s1.heap.objs.size + 4,[s1.heap.objs.size + 4,s1.heap.objs.size + 2,s1.heap.objs.size + 3,s1.heap.objs.size,s1.heap.objs.size + 1],_,_,H1,rfl,I2,vD l1 l2 _ _ _ _ _ ?_ ?_ ?_,⟨hZ,eH,⟨_,_,fB⟩,mH,kL⟩,λb hb=>?_,q⟩
   ·have z:=zipApart_new NX NW;exact ⟨z.TIz,z.TOz,z.i1z,z.i2z,z.TITO,z.TIi1,z.TIi2,z.TOi1,z.TOi2,z.i12⟩
   ·intro x hx;have z:=zipApart_new NX NW;simp only [zG,zK,or_false] at hx;rcases hx with e | e | e | e <;> subst e
    ·exact z.l1z
    ·exact z.l1TO
    ·exact z.l1i1
    ·exact z.l1i2
   ·intro x hx;have z:=zipApart_new NX NW;simp only [zG,zK,or_false] at hx;rcases hx with e | e | e | e <;> subst e
    ·exact z.l2z
    ·exact z.l2TO
    ·exact z.l2i1
    ·exact z.l2i2
   ·have mJ:s1.heap.objs.size<=b:=by
     simp only [zG,zK,or_false] at hb;rcases hb with e | e | e | e | e <;> rw [e] <;> first | exact zJ _ | exact yj _ _
    exact I1.rj mJ (I1.bh.fresh mJ)
section
variable {K:PySem.W.Frag}{a b:Addr}{xs ys:List V}{n:Nat}{caps:List Nat}{g:TG}{tc:TT}{te:TE}{σ:St}{H:Hp}{Qf:Addr->Hp->List V->Prop}
end
theorem LU {K:PySem.W.Frag}{a b:Addr}{xs ys:List V}{g:TG}{tb:TS}{D:Ends}{σ:St}{H:Hp}(el:xs.length=ys.length)(Pv:Nat->St->Hp->Prop)(h0:Pv 0 σ H)(hl:∀ i σ H,i<=xs.length->Pv i σ H->aX K H a xs/\aB K H b ys)
  (hs:∀ i x y q σ H,xs[i]?=some x->ys[i]?=some y->H q=none->Pv i σ H->g (.ref q) σ (upd H q (.tup [x,y])) fun lJ H2=>tb (D.lp (Pv (i + 1))) lJ H2) (hd:∀ σ H,Pv xs.length σ H->D.nx σ H) :
  ∃ W:Nat->Nat->St->Hp->Prop,(∃ m,W 0 m σ H)/\∀ i m σ H,W i m σ H ->
   ((Vu K a b).stop i H/\D.nx σ H)\/((Vu K a b).go i H/\∃ N:St->Hp->Prop,(∀ bK H',N bK H'->∃ m',m' < m/\W (i + 1) m' bK H')/\∀ x H',(Vu K a b).oA i H x H'->g x σ H' fun lJ H2=>tb (D.lp N) lJ H2):=by
 refine ⟨λi m σ H=>m=xs.length - i/\i<=xs.length/\Pv i σ H,⟨xs.length,by simp,zx _,h0⟩,?_⟩;rintro i m σ H ⟨rfl,hi,p⟩;obtain ⟨q1,q2⟩:=hl i σ H hi p;by_cases gc:i < xs.length
 ·refine .inr ⟨⟨xs,ys,xs[i],ys[i]'(by omega),q1,q2,el,by simp [gc],by simp [<-el,gc]⟩,Pv (i + 1),fun bK H' p'=>⟨xs.length - (i + 1),by omega,rfl,gc,p'⟩,λx H' y=>?_⟩;obtain ⟨q',x',y',hq,e1,e2,y⟩:=y;subst e1;subst e2;exact hs i x' y' q' σ _ (y xs ys q1 q2).1 (y xs ys q1 q2).2 hq p
 ·have e:i=xs.length:=by omega
  subst e;exact .inl ⟨⟨xs,ys,q1,q2,el,rfl⟩,hd σ H p⟩
theorem qH:∀ (n:Nat) (names:List (Str×NameKind)) (acc:List (Str×Addr)),cellsFrom n names acc=cellsFrom n names []++acc
 | _,[],_=>rfl
 | n,(x,k)::r,acc=>by
  unfold cellsFrom;split
  ·rw [qH (n + 1) r ((x,n)::acc),qH (n + 1) r [(x,n)],xK];rfl
  ·exact qH n r acc
theorem eO:∀ (n:Nat) (names:List (Str×NameKind)) (x:Str) (c:Addr),(x,c)∈cellsFrom n names []->(x,NameKind.cell)∈names
 | _,[],_,_,h=>by simp [cellsFrom] at h
 | n,(y,k)::r,x,c,h=>by
  unfold cellsFrom at h;split at h
  ·rename_i hk;rw [qH] at h;rcases zV.mp h with h | h
   ·exact zc _ (eO _ r x c h)
   ·cases zE.mp h;rw [show k=NameKind.cell by simpa using hk];exact zo
  ·exact zc _ (eO _ r x c h)
theorem cN:∀ (n:Nat) (names:List (Str×NameKind)) (x:Str),(x,NameKind.cell)∈names->∃ c,(x,c)∈cellsFrom n names []
 | _,[],_,h=>by simp at h
 | n,(y,k)::r,x,h=>by
  unfold cellsFrom;rcases zG.mp h with z | z
  ·have e1:x=y:=congrArg Prod.fst z;have e2:NameKind.cell=k:=congrArg Prod.snd z;subst e1 e2;rw [if_pos (show (NameKind.cell == NameKind.cell)=true from rfl),qH];exact ⟨n,zS _ (zE.mpr rfl)⟩
  ·split
   ·obtain ⟨c,h⟩:=cN (n + 1) r x z;rw [qH];exact ⟨c,yh _ h⟩
   ·exact cN n r x z
def Oo (scope:Scope)(env:Env)(C:Addr):List (Str×Addr):=cellsFrom (C + 1) scope.names []++fK scope.names env []
theorem fu {β:Type}:∀ (l r:List (Str×β)) (x:Str),(l++r).lookup x=(l.lookup x).or (r.lookup x)
 | [],_,_=>rfl
 | (n,d)::l,r,x=>by
  rw [zP,yN,yN];cases x == n with
  | true=>rfl
  | false=>exact fu l r x
theorem qV {scope:Scope}{env:Env}{C:Addr}{x:Str}{c:Addr}(h:(Oo scope env C).lookup x=some c):(cellsFrom (C + 1) scope.names []).lookup x=some c\/((cellsFrom (C + 1) scope.names []).lookup x=none/\env.cells.lookup x=some c):=by
 unfold Oo at h;rw [fu] at h;cases z:(cellsFrom (C + 1) scope.names []).lookup x with
 | some d=>rw [z] at h;exact .inl h
 | none=>rw [z] at h;exact .inr ⟨rfl,wl h⟩
structure gT (own:List Str) (caps:List Nat) (N:List Str) (sc scope:Scope):Prop where
 kind:scope.kind=.function
 cel:∀ y∈scope.names,y.2=.cell->scope.names.lookup y.1=some .cell
 loc:∀ y∈scope.names,y.2=.local->scope.names.lookup y.1=some .local
 fr:∀ y∈scope.names,y.2=.free->sc.names.lookup y.1=some .cell\/sc.names.lookup y.1=some .free
 cap:∀ i∈caps,i < N.length/\scope.names.lookup ((N[i]?).getD Str.empty)=some .free
def iL (X:Cx)(own:List Str)(caps:List Nat)(scope:Scope)(s:Shared)(H:Hp)(fp:List Addr)(C:Addr):Cx:=
 { X with N:=own++caps.map (λi=>(X.N[i]?).getD Str.empty),c6:=s,JJ:=H,env:=compEnvC scope (Oo scope X.env C) C X.env,outer:=X.stack,ex:=fp,fn:=λx=>scope.names.lookup x == some .cell,pn:=[],xe:=λ_ _=>False }
section
variable {M:Model}{A:Around}{E:Value->Shared->Prop}{s:Shared}
theorem eS {scope:Scope}{globals:Addr}{closure:List (Str×Addr)}{qual:Str}{func:Option Addr}{code:Value}{outer:Env}{builtins:Addr}{Q:Env->Shared->Prop}
  (hQ:∀ h':Heap,h'.Ns s.heap.objs.size (λ_=>none)->(∀ b o,s.heap.get? b=some o->h'.get? b=some o)->CellsOk h' (s.heap.objs.size + 1) (cellsFrom (s.heap.objs.size + 1) scope.names []) ->
   Q (newEnv scope s.heap.objs.size globals (cellsFrom (s.heap.objs.size + 1) scope.names []++closure) qual func code (some outer) builtins) { s with heap:=h' }) :
  wpAny M A (newFunctionEnv scope globals closure [] qual func code (some outer) builtins) Q E s:=by
 simp only [newFunctionEnv,Option.isSome_some,if_true];refine wpAny_bind (wpAny_alloc ?_);refine wpAny_bind (wpAny_layCells _ (λname kind cells=>by cases hkc:kind == NameKind.cell <;> simp [hkc]) _ _ _ _ ?_);have ok:=cellsFrom_ok scope.names (s.heap.push { cls:=.type "dict", data:=.dict #[] }) (s.heap.objs.size + 1) [] ⟨λ_ _ hm=>(nomatch hm),List.Pairwise.nil⟩ (by rw [Heap.size_push];exact zJ _);rw [Heap.size_push] at ok;rw [show ({ s with heap:=s.heap.push { cls:=.type "dict", data:=.dict #[] } }:Shared).heap.objs.size=s.heap.objs.size + 1 from Heap.size_push ..];rw [qH];refine wpAny_bind ?_;rw [List.forIn_nil];exact wpAny_pure (wpAny_pure (hQ _ ((Heap.Ns.new s.heap (.type "dict")).keeps (pushCells_keeps _ _)) (λb o e=>pushCells_keeps _ _ b o (Heap.get?_push_of_some _ e)) ok))
end
section
variable {X:Cx}{ai:List (Addr×Obj)}{σ:St}{H:Hp}{s:Shared}
theorem vz {scope:Scope}{env:Env}{x:Str}{k:NameKind}(hk:k=.cell\/k=.free)(h:(relabel scope env).names.lookup x=some k):(x,NameKind.free)∈scope.names\/(x,NameKind.cell)∈scope.names:=by
 have hm:=zv h;obtain ⟨⟨n,k0⟩,hy,e⟩:=zX.mp hm;dsimp only at e;split at e
 ·rename_i hc;simp only [zW,beq_iff_eq] at hc;have e1:n=x:=congrArg Prod.fst e;subst e1;rw [hc.1.1] at hy;exact .inl hy
 ·cases e;rcases hk with z | z
  ·subst z;exact .inr hy
  ·subst z;exact .inl hy
theorem Jp {own:List Str}{caps:List Nat}{scope:Scope}{fp:List Addr}{D C:Addr}{o:Obj}{h1:Heap}{tk:Nat}(I:Inv X ai σ H s)(S:gT own caps X.N X.env.scope scope)
  (f:∀ b∈fp,jg X ai H b) (fl:∀ b∈fp,b < s.heap.objs.size) (hD:s.heap.objs.size<=D) (hC:s.heap.objs.size<=C) (ve:D≠C) (keep:∀ b o,s.heap.get? b=some o->h1.get? b=some o)
  (Sa:h1.Ns C λ_=>none) (nS:h1.get? D=some o) (ho:∀ v,o.data≠.cell v) (Sg:CellsOk h1 (C + 1) (cellsFrom (C + 1) scope.names [])) :
  Inv (iL X own caps scope s H fp C) [(D,o)] (dG own.length caps σ) H { s with heap:=h1,toks:=tk }:=by
 have sub:∀ b∈Jy X.stack,b < s.heap.objs.size:=λb hb=>by
  rcases zG.mp (I.eZ b hb) with e | hb
  ·rw [e];exact I.lt
  ·by_cases q:b < s.heap.objs.size
   ·exact q
   ·exact absurd hb (I.QC (xM q))
 have uT:∀ {x:Str}{c:Addr},(cellsFrom (C + 1) scope.names []).lookup x=some c->C < c:=λ{x c} e=>(Sg.empty _ _ (zv e)).2;have La:∀ {x y:Str}{c:Addr},(cellsFrom (C + 1) scope.names []).lookup x=some c->X.env.cells.lookup y=some c->False:=λ{x y c} e e'=>by
  obtain ⟨v,ob,nP,_⟩:=I.cell y c e';exact absurd (Heap.lt_size nP) (Nat.not_lt.mpr (yG hC (xA (uT e))))
 have YG:∀ {x:Str}{c:Addr},(scope.names.lookup x == some NameKind.cell)=true->(Oo scope X.env C).lookup x=some c->C < c:=λ{x c} z e=>by
  have z':scope.names.lookup x=some .cell:=by
   cases q:scope.names.lookup x with
   | none=>rw [q] at z;cases z
   | some k=>rw [q] at z;cases k <;> first | rfl | cases z
  obtain ⟨d,hd⟩:=cN (C + 1) scope.names x (zv z');obtain ⟨d',O7⟩:=cM _ _ _ hd;rcases qV e with e | ⟨e,_⟩
  ·exact uT e
  ·rw [O7] at e;cases e
 refine ⟨⟨I.ok.mod,S.kind,I.ok.glob,I.ok.blt,hC,λx y c h1 h2=>?_,λx hx=>?_,λx c z e=>yG hC (xA (YG z e)),I.ok.hd,I.ok.frames,.inl rfl,
   λb hb=>⟨zt (zq (fl b hb) hC),λx c e=>?_⟩,I.bs,yG I.ok.Mk I.sz,λb ob e hb=>?_,λb hb hs=>?_,I.stack,I.nA⟩,
  rfl,I.bare,Un.kept keep,⟨_,Sa,λi x v e1 e2 e3=>?_⟩,λx c e=>?_,I.bh.fresh hC,λx c e=>?_,λp hp=>?_,I.bh.kept keep,?_⟩
 ·rcases qV h1 with h1 | ⟨n1,h1⟩ <;> rcases qV h2 with h2 | ⟨n2,h2⟩
  ·exact name_of_addr Sg.apart (zv h1) (zv h2)
  ·exact (La h1 h2).elim
  ·exact (La h2 h1).elim
  ·exact I.ok.inj x y c h1 h2
 ·have hm:(x,NameKind.free)∈scope.names\/(x,NameKind.cell)∈scope.names:=by
   rcases hx with hx | hx
   ·exact vz (.inl rfl) hx
   ·exact vz (.inr rfl) hx
  show ∃ c,(Oo scope X.env C).lookup x=some c;unfold Oo;rw [fu];cases z:(cellsFrom (C + 1) scope.names []).lookup x with
  | some d=>exact ⟨d,rfl⟩
  | none=>
   rcases hm with hm | hm
   ·obtain ⟨c,hc⟩:=I.ok.has x (S.fr _ hm rfl);exact ⟨c,gf hm hc⟩
   ·obtain ⟨c,hc⟩:=cN (C + 1) scope.names x hm;obtain ⟨d,hd⟩:=cM _ _ _ hc;rw [z] at hd;cases hd
 ·rcases qV e with e | ⟨_,e⟩
  ·have:=uT e;exact λq=>by rw [q] at this;exact absurd (fl b hb) (Nat.not_lt.mpr (yG hC (xA this)))
  ·exact (f b hb).2.2.2.2.1 x c e
 ·rcases (f b hb).2.2.2.1 with z | z
  ·exact I.ok.Jb b ob e z
  ·exact absurd (zq (Heap.lt_size e) (yG I.ok.Mk z)) (yM _)
 ·rcases zG.mp (I.eZ b hs) with e | e
  ·exact (f b hb).2.1 e
  ·exact (f b hb).2.2.1 e
 ·have L7:(List.replicate own.length (none:Option V)++caps.map λi=>(σ[i]?).join)[i]?=some (some v):=e2;have L8:(own++caps.map (λi=>(X.N[i]?).getD Str.empty))[i]?=some x:=e1;have hi:own.length<=i:=by
   by_cases q:i < own.length
   ·rw [yZ (by simpa using q),yi,if_pos q] at L7;cases L7
   ·exact xM q
  rw [yL (by simpa using hi),yb,zD] at L7;rw [yL hi,zD] at L8;cases ek:caps[i - own.length]? with
  | none=>rw [ek] at L8;cases L8
  | some k=>
   rw [ek] at L8 L7;have ex:(X.N[k]?).getD Str.empty=x:=Option.some.inj L8;have ev:(σ[k]?).join=some v:=Option.some.inj L7;have Oi:σ[k]?=some (some v):=by
    cases q:σ[k]? with
    | none=>rw [q] at ev;cases ev
    | some y=>rw [q] at ev;exact congrArg some ev
   obtain ⟨hl,hf⟩:=S.cap k (zC ek);have eN:X.N[k]?=some x:=by
    rw [zF hl] at ex ⊢;exact congrArg some ex
   rw [ex] at hf;have hm:=zv hf;have UP:=S.fr _ hm rfl;obtain ⟨m,_,UK⟩:=I.loc;obtain ⟨u,ru,lk⟩:=UK k x v eN Oi (.inr UP);have nn:(cellsFrom (C + 1) scope.names []).lookup x=none:=by
    cases z:(cellsFrom (C + 1) scope.names []).lookup x with
    | none=>rfl
    | some d=>
     have q:=S.cel _ (eO _ _ _ _ (zv z)) rfl;have q':scope.names.lookup x=some .cell:=q;rw [hf] at q';cases q'
   refine ⟨u,ru,.inr ⟨qJ hf,?_⟩⟩;rcases lk with ⟨kl,_⟩ | ⟨_,c,hc,ob,nP,hd⟩
   ·have N3:X.env.scope.names.lookup x=some .local:=kl;rcases UP with z | z
    ·have z':X.env.scope.names.lookup x=some .cell:=z;rw [z'] at N3;cases N3
    ·have z':X.env.scope.names.lookup x=some .free:=z;rw [z'] at N3;cases N3
   ·exact ⟨c,by show (Oo scope X.env C).lookup x=some c;unfold Oo;rw [fu,nn];exact gf hm hc,ob,keep c ob nP,hd⟩
 ·rcases qV e with e | ⟨_,e⟩
  ·exact ⟨_,(Sg.empty _ _ (zv e)).1⟩
  ·obtain ⟨v,ob,nP,hd⟩:=I.cell x c e;exact ⟨v,ob,keep c ob nP,hd⟩
 ·rcases qV e with e | ⟨_,e⟩
  ·exact I.bh.fresh (yG hC (xA (uT e)))
  ·exact I.fU x c e
 ·have e:p=(D,o):=by simpa using (show p∈[]++[(D,o)] from hp)
  subst e;refine ⟨nS,I.bh.fresh hD,ve,λz=>?_,ho⟩;exact absurd (zq (sub D z) hD) (yM _)
 ·show (dG own.length caps σ).length=(own++caps.map (λi=>(X.N[i]?).getD Str.empty)).length;simp [dG]
theorem pF {ix:Nat}{xn:Str}{pos' Kr:Pos}{own:List Str}{caps:List Nat}{elt tg iter:Expr}{ifs:List Expr}{scope:Scope}{pos:Pos}{wi:TI}{g:TG}{tc:TT}{te:TE}(hN:X.N.Nodup)(hix:X.N[ix]?=some xn)(Q3:Jf X.env.scope xn=true)(hc:X.calm=true)(S:gT own caps X.N X.env.scope scope)(hi:PI X tg iter wi)
  (hg:∀ s H fp C,PG (iL X own caps scope s H fp C) tg g) (ht:∀ s H fp C,Vp (iL X own caps scope s H fp C) ifs tc) (he:∀ s H fp C,PE (iL X own caps scope s H fp C) elt te)
  (hs:∀ x,foldedSetIterable iter X.env x=pure x:=by intro _;rfl) (ZW:swapsWith (.ListComp elt [⟨tg,iter,ifs,0⟩] scope pos) (some (.Name xn pos')) Kr.line X.env=pure true:=by rfl)
  (hf:ji X xn=true:=by rfl) :
  PS X (.Assign [.Name xn pos'] (.ListComp elt [⟨tg,iter,ifs,0⟩] scope pos) Kr) (sd (Kl own.length caps wi g tc te) (iI ix)):=by
 have Q3:=jG Q3;intro ai s σ H D0 I h;rw [exec_Assign_Name_used _ _ _ _ ZW,arm_evalThenUse_ListComp]
 suffices main:wpAny (model X.prog X.w) X.A (comprehension (.ListComp elt [⟨tg,iter,ifs,0⟩] scope pos) scope X.env (firstIterPos [⟨tg,iter,ifs,0⟩] pos) (newList []) false (eval iter X.env) (some (assign (.Name xn pos') X.env))) (λ_ s1=>SP X ai D0 .next s1) X.xe s from
  wpAny_bind (wpAny_standAt (wpAny_bind (wpAny_bind (wpAny_mono main (λ_ s1 h=>wpAny_pure (wpAny_pure h)) λ_ _ e=>e))))
 refine wpAny_comprehension_free (use:=some _) (cl:=fK scope.names X.env []) rfl hs (eL λy hy e=>I.ok.has y.1 (S.fr y hy e)) S.kind S.loc
  (wpAny_mono (hi ai s σ H _ I h) (λv s1 h1=>aZ h1 λUk s2 h2=>?_) λ_ _ e=>e)
 obtain ⟨it,fp,tn,J,H2,e,I2,T,MC,f2,W,⟨m0,w0⟩,turn⟩:=h2;subst e;refine wpAny_newObj_type (eS (λdO dP bZ kM=>?_));dsimp only at dP bZ kM ⊢;generalize LO:s2.heap.push { cls:=.type "list", dict:=none,data:=.seq ([]:List Value).toArray }=G at dP bZ kM ⊢;have hG:G.objs.size=s2.heap.objs.size + 1:=by rw [<-LO,Heap.size_push]
 have ve:s2.heap.objs.size≠G.objs.size:=by rw [hG];exact zt (Nat.lt_succ_self _)
 have nU:s2.heap.objs.size<=G.objs.size:=by rw [hG];exact Nat.le_succ _
 have below:∀ b,b < s2.heap.objs.size->b≠G.objs.size:=λb hb=>by rw [hG];exact zt (xC hb)
 have old:∀ b o,s2.heap.get? b=some o->dO.get? b=some o:=λb o e=>bZ b o (LO ▸ Heap.get?_push_of_some _ e);have nS:dO.get? s2.heap.objs.size=some { cls:=.type "list", dict:=none,data:=.seq ([]:List Value).toArray }:=bZ _ _ (LO ▸ Heap.get?_push_size _ rfl);have fl:∀ b∈fp,b < s2.heap.objs.size:=λb hb=>let ⟨o,e,_⟩:=T.obj _ _ MC b hb;Heap.lt_size e;have iG:dO.Ns G.objs.size λ_=>none:=dP;have I4:=Jp (tk:=s2.toks) I2 S f2 fl (zJ _) nU ve old iG nS (λv z=>nomatch z) kM;have Kq:tn 0 dO:=T.keep _ _ _ MC λb _ o e=>old b o e;generalize UE:({ s2 with heap:=dO,toks:=s2.toks }:Shared)=s4 at I4 ⊢;have e4:s4.heap=dO:=by rw [<-UE]
 rw [<-e4] at Kq
 -- vJ loop
 have loop:codeAny (model X.prog X.w) X.A (.compLoop (.ListComp elt [⟨tg,iter,ifs,0⟩] scope pos) 0 (.ref it) (.ref s2.heap.objs.size) (compEnvC scope (Oo scope X.env G.objs.size) G.objs.size X.env))
   (compPost (model X.prog X.w) X.A X.xe (some (assign (.Name xn pos') X.env)) (λ_ s1=>SP X ai D0 .next s1) (.ref s2.heap.objs.size) G.objs.size) s4:=by
  let Y:=iL X own caps scope s2 H2 fp G.objs.size
  have gH:∀ {H':Hp}{aC:List Value}{n:Nat},(∀ b∈fp,H' b=none)->∀ b∈fp,jg Y [(s2.heap.objs.size,({ cls:=.type "list", data:=.seq aC.toArray n }:Obj))] H' b:=λ{H' aC n} hn b hb=>by
   refine ⟨hn b hb,below b (fl b hb),λz=>?_,.inl hb,λx c e=>?_,λp hp=>?_⟩
   ·rcases zG.mp (I2.eZ b z) with e | e
    ·exact (f2 b hb).2.1 e
    ·exact (f2 b hb).2.2.1 e
   ·rcases qV e with e | ⟨_,e⟩
    ·have:=(kM.empty _ _ (zv e)).2;exact λq=>by rw [q] at this;exact absurd (fl b hb) (Nat.not_lt.mpr (yG nU (xA this)))
    ·exact (f2 b hb).2.2.2.2.1 x c e
   ·have e:p=(s2.heap.objs.size,({ cls:=.type "list", data:=.seq aC.toArray n }:Obj)):=by simpa using (show p∈[]++[_] from hp)
    subst e;exact yf (fl b hb)
  refine i7 (λn s'=>∃ i τ acc aC k H',Inv Y [(s2.heap.objs.size,({ cls:=.type "list", data:=.seq aC.toArray k }:Obj))] τ H' s'/\tn i s'.heap/\(∀ b∈fp,H' b=none)/\Vals acc aC/\W i n τ acc H') ?_ m0
   ⟨0,_,[],[],0,H2,I4,Kq,λb hb=>(f2 b hb).1,.nil,w0⟩
  rintro n s5 ⟨i,τ,acc,aC,k,H5,I5,JO,MO,uG,w5⟩;rcases turn i n τ acc H5 w5 with ⟨stop,hz,q⟩ | ⟨go,hz,step⟩
  ·refine aZ (T.done Y rfl rfl rfl hc i _ s5 τ H5 (λ_ _=>False) I5 (gH MO) JO stop) λr s6 ⟨hr,I6⟩=>?_;subst hr;obtain ⟨eD,nD,_,_,_⟩:=I6.pin _ (zS _ (zE.mpr rfl));obtain ⟨m6,Ra,_⟩:=I6.loc;have Sh:H5 G.objs.size=none:=I6.free;have LB:gS X.prog X.w H5 s6.heap:=I6.bh;have ub:=I6.base;have IX:Inv X ai σ (upd H5 s2.heap.objs.size (.lst acc)) s6:=by
    refine I2.Mj (ch:=fp) (s':=s6) I6.os ⟨λb o e n' hb hx=>ub.keep b o e n' hb hx,λb o e n' hb hx=>?_,λb o e n' hx=>?_,λb o e hx=>?_,λb xs e=>?_,λb o u e=>?_,λb ps e=>?_⟩
     (LB.Kd nD ⟨hz,aC,k,uG,eD⟩) I6.bare λb hb=>⟨(f2 b hb).2.2.2.1,(f2 b hb).2.1,(f2 b hb).2.2.2.2.1,(f2 b hb).2.2.2.2.2⟩
    ·exact ub.slot b o e n' hb hx
    ·rw [xj (zt (Heap.lt_size e))];exact ub.free b o e n' hx
    ·exact ub.there b o e hx
    ·have z:=ub.aS b xs e;rw [xj (xV z nD)];exact z
    ·have z:=ub.ju b o u e;rw [xj (xV z nD)];exact z
    ·obtain ⟨more,z⟩:=ub.jO b ps e;exact ⟨more,by rw [xj (xV z nD)];exact z⟩
   have Rj:(upd H5 s2.heap.objs.size (.lst acc)) G.objs.size=none:=by rw [xj (Ne.symm ve)];exact Sh
   have fC:jg X ai (upd H5 s2.heap.objs.size (.lst acc)) G.objs.size:=I2.rj nU Rj;obtain ⟨oC,esC,epC,gC,dC,rC⟩:=Ra;have IP:=IX.pinned (fp:=[G.objs.size]) (λb hb=>by cases zE.mp hb;exact fC) (λb hb=>by cases zE.mp hb;exact ⟨oC,gC,λv z=>by rw [dC] at z;cases z⟩);refine wpAny_assign_Name (ic IP hN hix Q3 (v:=.ref s2.heap.objs.size) rfl (λs7 I7=>?_) hf);have pC:=(I7.pin (G.objs.size,oC) (zS _ (zS _ (qF (zE.mpr rfl) gC)))).1;refine ⟨m6,⟨oC,esC,epC,pC,dC,rC⟩,λh' Oa=>?_⟩;have I8:Inv X ai (σ.set ix (some (.ref s2.heap.objs.size))) (upd H5 s2.heap.objs.size (.lst acc)) { s7 with heap:=h' }:=I7.cO.turned (t':=s7.toks) (λb o hb e=>Oa.extBut b o hb e) fC.1 fC.2.1 fC.2.2.2.1 fC.2.2.2.2.1 fC.2.2.2.2.2;exact ⟨_,_,I8,q _ nD⟩
  ·refine aZ (T.item Y rfl rfl rfl hc i _ s5 τ H5 (λ_ _=>False) I5 (gH MO) JO go) λr s6 ⟨u,hr,h6⟩=>?_;subst hr;refine aZ h6 λ_ s7 ⟨x,H7,I7,r7,y7,Ko,U9⟩=>?_;have Vx:=I7.pinned (gH U9) (T.obj _ _ Ko);refine aZ (hg s2 H2 fp G.objs.size _ s7 τ H7 x u _ Vx r7 (step x H7 y7)) λ_ s8 ⟨oG,H8,I8,q8⟩=>?_;refine aZ (ht s2 H2 fp G.objs.size _ s8 oG H8 _ I8 q8) λok s9 ⟨H9,I9,q9⟩=>?_
   -- vJ gM state behind vJ turn
   have back:∀ {s':Shared}{OB:St}{H':Hp},Inv Y ([(s2.heap.objs.size,({ cls:=.type "list", data:=.seq aC.toArray k }:Obj))]++gJ fp s7.heap) OB H' s'->(tn (i + 1) s'.heap/\∀ b∈fp,H' b=none):=λ{s' OB H'} Ib=>
    ⟨T.keep _ _ _ Ko λb hb o e=>(Ib.pin (b,o) (zS _ (zS _ (qF hb e)))).1,λb hb=>by
     obtain ⟨o,e,d⟩:=T.obj _ _ Ko b hb;exact (Ib.pin (b,o) (zS _ (zS _ (qF hb e)))).2.1⟩
   cases ok with
   | false=>
    obtain ⟨m',Js,w'⟩:=q9;obtain ⟨sb,fb⟩:=back I9;exact ⟨m',Js,i + 1,oG,acc,aC,k,H9,I9.cO,sb,fb,uG,w'⟩
   | true=>
    refine aZ (he s2 H2 fp G.objs.size _ s9 oG H9 _ I9 q9) λy gj ⟨yv,eX,Mw,S9,Qp⟩=>?_;obtain ⟨m',Js,w'⟩:=Qp;obtain ⟨sb,fb⟩:=back Mw;obtain ⟨eD,nD,MF,Tp,_⟩:=Mw.pin (s2.heap.objs.size,_) (zS _ (yh _ (zE.mpr rfl)));have hl:acc.length=aC.length:=uG.length;refine call_meets F.slot_list_append ⟨_,eD,rfl⟩ F.entry_list_append (F.args_list_append_2 _ _) (PySem.list_append s2.heap.objs.size aC.toArray k y (by rw [zf];omega)) ⟨eD,?_⟩;have q:=PySem.IsL.update eD (λa:Array Value=>a.push y);have Iu:Inv Y [] oG eX gj:=Mw.dY λp hp=>nomatch hp;have It:=Iu.turned (t':=gj.toks) (it:=s2.heap.objs.size) (h':=gj.heap.update s2.heap.objs.size (Obj.mapSeq (λa:Array Value=>a.push y))) (λb o hb e=>(Heap.get?_update_other gj.heap _ (Ne.symm hb)).trans e) nD MF (.inr (zJ _))
     (λx c e z=>by
      rcases qV e with e | ⟨_,e⟩
      ·have:=(kM.empty _ _ (zv e)).2;rw [z] at this;exact absurd (Nat.lt_of_le_of_lt nU this) (yM _)
      obtain ⟨v,ob,nP,_⟩:=I2.cell x c e;exact absurd (Heap.lt_size nP) (by rw [z];exact yM _)) (λp hp=>nomatch hp)
    have Vw:=It.dY (pJ:=[(s2.heap.objs.size,({ cls:=.type "list", data:=.seq (aC++[y]).toArray (k + 1) }:Obj))]) λp hp=>by
     have e:p=_:=zE.mp hp;subst e;exact ⟨by simpa using q,nD,MF,Tp,λv z=>nomatch z⟩
    refine ⟨m',Js,i + 1,oG,acc++[yv],aC++[y],_,eX,Vw,T.keep _ _ _ sb λb hb o e=>(Heap.get?_update_other gj.heap _ (yf (fl b hb))).trans e,fb,uG.append (.cons S9 .nil),w'⟩
 exact codeAny_compStart_list loop (T.self _ 0 s4 _ _ Kq loop)
end
theorem cZ {env:Env}:∀ {names:List (Str×NameKind)}{x:Str},names.lookup x=some .cell ->
  (names.map λ(n,k)=>if (k == NameKind.free && env.scope.kind == .function && env.kindOf n == some .cell) then (n,NameKind.cell) else (n,k)).lookup x=some .cell
 | [],_,h=>by simp at h
 | (n,k)::r,x,h=>by
  have ih:=@cZ env r x;show List.lookup x ((if (k == NameKind.free && env.scope.kind == .function && env.kindOf n == some .cell)=true then (n,NameKind.cell) else (n,k))::_)=_;by_cases hc:(k == NameKind.free && env.scope.kind == .function && env.kindOf n == some .cell)=true
  ·rw [if_pos hc];cases hx:x == n with
   | true=>simp [yN,hx]
   | false=>
    simp only [yN,hx] at h ⊢;exact ih h
  ·rw [if_neg hc];cases hx:x == n with
   | true=>simp only [yN,hx] at h ⊢;exact h
   | false=>
    simp only [yN,hx] at h ⊢;exact ih h
theorem aD.inn {own:List Str}{caps:List Nat}{N:List Str}{so scope:Scope}{env:Env}(h1:scope.kind=.function)(h2:∀ y∈scope.names,y.2≠.cell)(h3:∀ y∈scope.names,y.2=.local->scope.names.lookup y.1=some .local)
  (h4:∀ y∈scope.names,y.2=.free->so.names.lookup y.1=some .cell\/so.names.lookup y.1=some .free) (h5:∀ i∈caps,i < N.length/\scope.names.lookup ((N[i]?).getD Str.empty)=some .free):aD own caps N (relabel so env) scope:=
 ⟨h1,h2,h3,λy hy e=>(h4 y hy e).elim (λz=>.inl (cZ z)) λz=>qJ z,h5⟩
end L2
namespace L2
theorem tV {X:Cx}{K:PySem.W.Frag}(hK:X.K=K)(hc:X.calm=true):cD X (.builtin "sum") (λxs H Q=>∃ p ns,xs=[.ref p]/\aB K H p (List.map V.int ns)/\Q (.int ns.sum) H):=by subst hK;exact cJ hc
end L2
namespace Sm
open PySem L2
structure S3 where
 w:Int
 t:Int
 m:Int
structure aE (H:Hp) (l:Addr) (ps:List (Addr×S3)):Prop where
 l:H l=some (.lst (ps.map λa=>V.ref a.1))
 each:∀ a∈ps,H a.1=some (.tup [.int a.2.w,.int a.2.t,.int a.2.m])
theorem aE.same {H H':Hp}{l:Addr}{ps:List (Addr×S3)}(h:aE H l ps)(s:ay H H'):aE H' l ps:=⟨s _ _ h.l,λa ha=>s _ _ (h.each a ha)⟩
structure R4 where
 th:Int
 bk:Int
 bg:List Int
 cm:List Int
structure RA where
 a:Addr
 b:Addr
 c:Addr
 r:R4
structure RA.At (H:Hp) (x:RA):Prop where
 a:H x.a=some (.tup [.int x.r.th,.int x.r.bk,.ref x.b,.ref x.c])
 b:H x.b=some (.lst (x.r.bg.map V.int))
 c:H x.c=some (.lst (x.r.cm.map V.int))
theorem RA.At.same {H H':Hp}{x:RA}(h:RA.At H x)(s:ay H H'):RA.At H' x:=⟨s _ _ h.a,s _ _ h.b,s _ _ h.c⟩
structure T3 where
 k:Int
 j:Int
 m:Int
structure aV (H:Hp) (p:Addr) (lr ls:Addr) (xs:List RA) (ts:List (Addr×T3)):Prop where
 p:H p=some (.tup [.ref lr,.ref ls])
 lr:H lr=some (.lst (xs.map λx=>V.ref x.a))
 ls:H ls=some (.lst (ts.map λx=>V.ref x.1))
 rows:∀ x∈xs,RA.At H x
 ones:∀ x∈ts,H x.1=some (.tup [.int x.2.k,.int x.2.j,.int x.2.m])
theorem aV.same {H H':Hp}{p lr ls:Addr}{xs:List RA}{ts:List (Addr×T3)}(h:aV H p lr ls xs ts)(s:ay H H'):aV H' p lr ls xs ts:=
 ⟨s _ _ h.p,s _ _ h.lr,s _ _ h.ls,λx hx=>(h.rows x hx).same s,λx hx=>s _ _ (h.ones x hx)⟩
structure R4.ok (n m:Nat) (r:R4):Prop where
 th:0<=r.th
 bk:0<=r.bk
 bl:r.bg.length=n
 cl:r.cm.length=m
 b0:∀ x∈r.bg,(0:Int)<=x
 c0:∀ x∈r.cm,(0:Int)<=x
structure T3.ok (n m:Nat) (t:T3):Prop where
 k:0<=t.k/\t.k < n
 j:0<=t.j/\t.j < m
 m:0 < t.m
def fJ:V->Bool
 | .int i=>decide (0<=i)
 | _=>false
def Nn:Sp:=λvs H Q _=>∃ x t,vs=[x]/\fF H x=some t/\Q (.bl (fJ x)) H
structure gR (nm nl nw:Nat) (xs:List RA) (ts:List (Addr×T3)):Prop where
 n:xs.length=nm
 sX:nm<=60
 l:nl<=100
 w:nw<=100
 t:ts.length<=100
 rows:∀ x∈xs,x.r.ok nl nw
 ones:∀ x∈ts,T3.ok nl nw x.2
def ia (l w:S3):Bool:=decide (l.w=w.w) && decide (l.t<=w.t)
def oY:Sp:=λvs H Q _=>∃ a b l w,vs=[.ref a,.ref b]/\H a=some (.tup [.int l.w,.int l.t,.int l.m])/\H b=some (.tup [.int w.w,.int w.t,.int w.m])/\Q (.bl (ia l w)) H
def lO (ls ws:List S3)(t:T3):Bool:=match ls[t.k.toNat]?,ws[t.j.toNat]? with
 | some l,some w=>ia l w
 | _,_=>false
theorem ny {ls ws:List S3}{t:T3}{l w:S3}(h1:ls[t.k.toNat]?=some l)(h2:ws[t.j.toNat]?=some w):lO ls ws t=ia l w:=by unfold lO;rw [h1,h2]
def dj (ls ws:List S3)(ts:List T3):Bool:=ts.all (lO ls ws)
def bE (ss:List S3)(ns:List Int)(w:Int):Int:=(((ss.zip ns).filter λp=>decide (p.1.w=w)).map (·.2)).sum
def Yg:Sp:=λvs H Q _=>∃ l n ps ns w,vs=[.ref l,.ref n,.int w]/\aE H l ps/\H n=some (.lst (List.map V.int ns))/\ns.length=ps.length/\ps.length<=100/\∀ H',ay H H'->Q (.int (bE (ps.map (·.2)) ns w)) H'
def dg (r:M4)(bad:S3->Bool)(p:S3×Int):Bool:=!(decide (p.2 > 0) && (!(decide (p.1.w=r.lo) || decide (p.1.w=r.hi)) || bad p.1))
def aQ (r:M4)(ls ws:List S3)(x:R4):Bool:=
 ((ls.zip x.bg).all (dg r λs=>decide (s.t ≥ r.t))) && ((ws.zip x.cm).all (dg r λs=>decide (s.t < r.t))) && decide (x.th + x.bk<=r.m)
def vN:Sp:=λvs H Q _=>∃ m r ll lw ls ws x,vs=[.ref m,.ref ll,.ref lw,.ref x.a]/\H m=some (.tup [.int r.lo,.int r.hi,.int r.t,.int r.m])/\aE H ll ls/\aE H lw ws/\ls.length<=100/\ws.length<=100/\RA.At H x/\x.r.bg.length=ls.length/\x.r.cm.length=ws.length/\∀ H',ay H H'->Q (.bl (aQ r (ls.map (·.2)) (ws.map (·.2)) x.r)) H'
def aP (bs:List Int)(w:Int):Int:=bs.getD w.toNat 0
def bC (bs:List Int)(w o i:Int):Bool:=decide (0<=o) && decide (o<=aP bs w) && decide (0<=i)
def aM (bs:List Int)(r:M4)(ls ws:List S3)(x:R4):Option (List Int):=
 if bC bs r.lo (x.th - bE ls x.bg r.lo) (x.bk - bE ws x.cm r.lo) && bC bs r.hi (x.bk - bE ls x.bg r.hi) (x.th - bE ws x.cm r.hi) then
  some ((bs.set r.lo.toNat (aP bs r.lo + ((x.bk - bE ws x.cm r.lo) - (x.th - bE ls x.bg r.lo)))).set r.hi.toNat (aP bs r.hi + ((x.th - bE ws x.cm r.hi) - (x.bk - bE ls x.bg r.hi))))
 else none
def gq (bs:List Int)(r:M4)(ls ws:List S3)(x:R4):Nat->List Int->Prop
 | 0,cs=>cs=bs
 | 1,cs=>bC bs r.lo (x.th - bE ls x.bg r.lo) (x.bk - bE ws x.cm r.lo)=true/\cs=bs.set r.lo.toNat (aP bs r.lo + ((x.bk - bE ws x.cm r.lo) - (x.th - bE ls x.bg r.lo)))
 | _,cs=>bC bs r.lo (x.th - bE ls x.bg r.lo) (x.bk - bE ws x.cm r.lo)=true/\bC bs r.hi (x.bk - bE ls x.bg r.hi) (x.th - bE ws x.cm r.hi)=true/\cs=(bs.set r.lo.toNat (aP bs r.lo + ((x.bk - bE ws x.cm r.lo) - (x.th - bE ls x.bg r.lo)))).set r.hi.toNat (aP bs r.hi + ((x.th - bE ws x.cm r.hi) - (x.bk - bE ls x.bg r.hi)))
theorem jv {bs:List Int}{w:Int}(h0:0<=w)(h1:w < bs.length):bQ (bs.map V.int) w=some (V.int (aP bs w)):=by obtain ⟨k,rfl⟩:=zm h0;refine wA ?_;rw [zD];unfold aP;rw [yA,zZ,zF (by omega)];rfl
theorem Vk {bs:List Int}{w:Int}(h0:0<=w)(h1:w < bs.length):(bs.map V.int)[w.toNat]?=some (V.int (aP bs w)):=by rw [zD];unfold aP;rw [zZ,zF (by omega)];rfl
theorem gb {x a b:Int}:Q2 (V.int x) [V.int a,V.int b]=(decide (x=a) || decide (x=b)):=by have:=kI (x:=x) (bs:=[a,b]);simp only [zI,zg] at this;rw [this];by_cases c:x=a <;> by_cases d:x=b <;> simp [c,d]
theorem tD {n:Nat}{i:Int}(h0:0<=i)(h1:i < n):tE n i=some i.toNat:=by unfold tE;rw [if_pos h0,if_pos h1]
theorem JH {bs:List Int}{v w x:Int}(h0:0<=v)(h1:0<=w)(ne:v≠w):aP (bs.set v.toNat x) w=aP bs w:=by unfold aP;rw [zZ,zZ,List.getElem?_set_ne (by omega)]
theorem Mp {bs:List Int}{v x:Int}(h0:0<=v)(h1:v < bs.length):aP (bs.set v.toNat x) v=x:=by unfold aP;rw [zZ,List.getElem?_set_self (by omega)];rfl
def vR:Sp:=λvs H Q _=>∃ lb,∃ bs:List Int,∃ m,∃ r:M4,∃ ll lw ls ws x,vs=[.ref lb,.ref m,.ref ll,.ref lw,.ref x.a]/\H lb=some (.lst (List.map V.int bs))/\(0<=r.lo/\r.lo < r.hi/\r.hi < bs.length)/\bs.length<=100/\H m=some (.tup [.int r.lo,.int r.hi,.int r.t,.int r.m])/\aE H ll ls/\aE H lw ws/\ls.length<=100/\ws.length<=100/\RA.At H x/\x.r.bg.length=ls.length/\x.r.cm.length=ws.length /\
 (aM bs r (ls.map (·.2)) (ws.map (·.2)) x.r=none->∀ H',ay H H'->Q .bF H')/\∀ cs,aM bs r (ls.map (·.2)) (ws.map (·.2)) x.r=some cs->∀ p H',H p=none->ay H H'->H' p=some (.lst (cs.map V.int))->Q (.ref p) H'
def cV (aa:List Int)(ls ws:List S3):List (M4×R4)->List Int->Bool
 | [],_=>true
 | (r,x)::rest,bs=>aQ r ls ws x && match aM bs r ls ws x with
  | none=>false
  | some cs=>((cs.zip aa).all λp=>decide (p.1<=p.2)) && cV aa ls ws rest cs
def P6:Sp:=λvs H Q _=>∃ b ll lw lr aa tr tm ps ls ws,∃ xs:List RA,vs=[.ref b,.ref ll,.ref lw,.ref lr]/\bJ H b aa tr tm ps/\Good aa.length (ps.map (·.2))/\aa.length<=100/\aE H ll ls/\aE H lw ws/\ls.length<=100/\ws.length<=100/\H lr=some (.lst (xs.map λx=>V.ref x.a))/\(∀ x∈xs,RA.At H x)/\xs.length=ps.length/\(∀ x∈xs,x.r.bg.length=ls.length/\x.r.cm.length=ws.length) /\
 ∀ H',ay H H'->Q (.bl (cV aa (ls.map (·.2)) (ws.map (·.2)) ((ps.map (·.2)).zip (xs.map (·.r))) (List.replicate aa.length 0))) H'
def eE (n:Nat)(rows:List (List Int))(ps:List (Int×Int)):List Int:=(List.range n).map λ(k:Nat)=>(rows.map λr=>r.getD k 0).sum + ((ps.filter λx=>decide (x.1=(k:Int))).map (·.2)).sum
def Kw:Sp:=λvs H Q _=>∃ n:Nat,∃ lr ls,∃ rs:List (Addr×List Int),∃ ts:List (Addr×Int×Int),vs=[.int n,.ref lr,.ref ls]/\n<=100/\H lr=some (.lst (rs.map λx=>V.ref x.1))/\(∀ x∈rs,H x.1=some (.lst (x.2.map V.int))/\x.2.length=n)/\rs.length<=60/\H ls=some (.lst (ts.map λx=>V.ref x.1))/\(∀ x∈ts,H x.1=some (.tup [.int x.2.1,.int x.2.2])/\0<=x.2.1/\x.2.1 < n)/\ts.length<=100 /\
 ∀ l H',H l=none->ay H H'->H' l=some (.lst ((eE n (rs.map (·.2)) (ts.map (·.2))).map V.int))->Q (.ref l) H'
def dS (ns:List Int)(ss:List S3):Bool:=(ns.zip ss).all λp=>decide (p.1<=p.2.m)
def Nb:Sp:=λvs H Q _=>∃ l a ns ps,vs=[.ref l,.ref a]/\H l=some (.lst (List.map V.int ns))/\aE H a ps/\ns.length=ps.length/\ps.length<=100/\∀ H',ay H H'->Q (.bl (dS ns (ps.map (·.2)))) H'
def eU (n:Nat)(xs:List R4)(ts:List T3):List Int:=eE n (xs.map (·.bg)) (ts.map λt=>(t.k,t.m))
def bU (n:Nat)(xs:List R4)(ts:List T3):List Int:=eE n (xs.map (·.cm)) (ts.map λt=>(t.j,t.m))
def bW (aa:List Int)(ms:List M4)(ls ws:List S3)(xs:List R4)(ts:List T3):Option Int:=
 if dj ls ws ts && cV aa ls ws (ms.zip xs) (List.replicate aa.length 0) && (dS (eU ls.length xs ts) ls && dS (bU ws.length xs ts) ws) then some (bU ws.length xs ts).sum else none
theorem cW {α β:Type}{xs:List α}{ys:List β}{i:Nat}{x:α}{y:β}(hx:xs[i]?=some x)(hy:ys[i]?=some y):(xs.zip ys)[i]?=some (x,y):=by rw [yQ];exact ⟨hx,hy⟩
theorem qC {α:Type}{ps:List (Addr×α)}{i:Nat}{r:Addr×α}(h:ps[i]?=some r):(ps.map (·.2))[i]?=some r.2:=by rw [zD,h];rfl
theorem rO {α:Type}{xs:List α}{i:Nat}{x:α}{f:α->Bool}(h:xs[i]?=some x):(xs.take (i + 1)).all f=((xs.take i).all f && f x):=by rw [xv h,List.all_append,yk,List.all_nil,Bool.and_true]
theorem rN {α:Type}{xs:List α}{i:Nat}{x:α}{f:α->Bool}(h:xs[i]?=some x)(e:f x=false):xs.all f=false:=by rw [List.all_eq_false];exact ⟨x,zC h,by rw [e];exact za⟩
theorem fY {α β:Type}{xs:List α}{ys:List β}(e:ys.length=xs.length):(xs.zip ys).length=xs.length:=by rw [List.length_zip];omega
theorem pT {ss:List S3}{ns:List Int}{w:Int}{i:Nat}{s:S3}{n:Int}(hs:ss[i]?=some s)(hn:ns[i]?=some n) :
  ((((ss.zip ns).take (i + 1)).filter λp=>decide (p.1.w=w)).map (·.2))=((((ss.zip ns).take i).filter λp=>decide (p.1.w=w)).map (·.2))++if s.w=w then [n] else []:=by
 rw [xv (cW hs hn),List.filter_append,zB];by_cases c:s.w=w
 ·simp [c]
 ·simp [c]
theorem qR {n:Nat}{rows:List (List Int)}{ps:List (Int×Int)}:(eE n rows ps).length=n:=by unfold eE;rw [zA,yl]
theorem fZ {n k:Nat}{rows:List (List Int)}{ps:List (Int×Int)}(h:k < n):(eE n rows ps)[k]?=some ((rows.map λr=>r.getD k 0).sum + ((ps.filter λx=>decide (x.1=(k:Int))).map (·.2)).sum):=by unfold eE;rw [zD,yo h];rfl
theorem vI {n k:Nat}{rows:List (List Int)}{ps:List (Int×Int)}{m old:Int}(h:k < n)(e:(eE n rows ps)[k]?=some old):eE n rows (ps++[((k:Int),m)])=(eE n rows ps).set k (old + m):=by
 rw [fZ h] at e;refine yu λi=>?_;by_cases hi:i < n
 ·rw [fZ hi,List.getElem?_set];by_cases c:k=i
  ·subst c;rw [if_pos rfl,if_pos (by rw [qR];exact h)];rw [List.filter_append,zB,yw,<- Option.some.inj e];congr 1;have:((List.filter (λx:Int×Int=>decide (x.1=(k:Int))) [((k:Int),m)]).map (·.2)).sum=m:=by simp
   rw [this];omega
  ·rw [if_neg c,fZ hi,List.filter_append,zB,yw];have:(List.filter (λx:Int×Int=>decide (x.1=(i:Int))) [((k:Int),m)])=[]:=by
    rw [List.filter_cons,if_neg (by simp;omega)];rfl
   rw [this];simp
 ·rw [yF (by rw [qR];omega),yF (by rw [yI,qR];omega)]
theorem vm {α:Type}{xs:List α}{i:Nat}{x:α}(h:xs[i]?=some x):xs.drop i=x::xs.drop (i + 1):=by obtain ⟨hi,e⟩:=zQ.mp h;rw [List.drop_eq_getElem_cons hi,e]
theorem fz {aa:List Int}{ls ws:List S3}{r:M4}{x:R4}{rest:List (M4×R4)}{bs:List Int}:cV aa ls ws ((r,x)::rest) bs=(aQ r ls ws x && match aM bs r ls ws x with
  | none=>false
  | some cs=>((cs.zip aa).all λp=>decide (p.1<=p.2)) && cV aa ls ws rest cs):=rfl
theorem jo {bs:List Int}{r:M4}{ls ws:List S3}{x:R4}{cs:List Int}(h:aM bs r ls ws x=some cs):cs.length=bs.length:=by
 unfold aM at h;split at h
 ·cases h;rw [yI,yI]
 ·cases h
theorem dm {p:Addr}{H H1 H2:Hp}(hp:H p=none)(s:ay H H1)(g:oF p H1 H2):ay H H2:=λb u e=>g b u (xV e hp) (s b u e)
theorem Go.sJ {p l:Addr}{H H':Hp}{o:HO}(g:Go p H H')(h:H l=none)(n:l≠p):Go p H (upd H' l o):=
 ⟨λb u nb e=>by rw [xj (xV e h)];exact g.1 b u nb e,by obtain ⟨a,b,c,e⟩:=g.2;exact ⟨a,b,c,by rw [xj n.symm];exact e⟩⟩
def Kz:Sp:=λvs H Q _=>∃ p b j aa tr tm ps,∃ n:Nat,vs=[.ref p,.ref b,.int n,.int j]/\(j=0\/j=1)/\bJ H b aa tr tm ps/\Good aa.length (ps.map (·.2))/\1<=n/\n<=1000/\aK H p /\
 ∀ t (s:S3) H',Go p H H'->H' t=some (.tup [.int s.w,.int s.t,.int s.m])->0<=s.w->s.w < n->1<=s.m->s.m<=99->Q (.ref t) H'
def vO (K:PySem.W.Frag):Sp:=λvs H Q _=>∃ sa b hd j aa tr tm ps ns,∃ n:Nat,∃ H0,vs=[.ref sa,.ref b,.ref hd,.int n,.int j]/\aB K H0 sa (List.map V.int ns)/\ns.length<=63/\H0 hd=none/\ay H0 H/\n < 100/\(j=0\/j=1)/\bJ H b aa tr tm ps/\Good aa.length (ps.map (·.2))/\1<=aa.length/\aa.length<=12/\aK H hd /\
 ∀ l (ss:List (Addr×S3)) H',H l=none->Go hd H H'->aE H' l ss->ss.length<=8->(∀ a∈ss,0<=a.2.w/\a.2.w < aa.length/\1<=a.2.m/\a.2.m<=99)->Q (.ref l) H'
def tP (j:Int)(s:S3)(t:Int):Bool:=if j=0 then decide (s.t < t) else decide (s.t ≥ t)
def KD:Sp:=λvs H Q _=>∃ ls lr w t j,∃ ps:List (Addr×S3),∃ rs,vs=[.ref ls,.ref lr,.int w,.int t,.int j]/\aE H ls ps/\H lr=some (.lst (List.map V.int rs))/\rs.length=ps.length/\ps.length<=100/\(j=0\/j=1) /\
 ∀ l (ks:List Nat) H',H l=none->ay H H'->H' l=some (.lst (ks.map λk:Nat=>V.int (k:Int)))->(∀ k∈ks,∃ s r,(ps.map (·.2))[k]?=some s/\rs[k]?=some r/\s.w=w/\tP j s t=true/\0 < r)->ks.length<=ps.length->Q (.ref l) H'
def aH (xs:List Int)(k:Nat):Int:=xs.getD k 0
theorem wY {xs:List Int}{k:Nat}(h:k < xs.length):xs[k]?=some (aH xs k):=by unfold aH;rw [zZ,zF h];rfl
theorem qT {xs:List Int}{k:Nat}(h:k < xs.length):aH xs k∈xs:=zC (wY h)
theorem iJ {xs:List Int}{k:Nat}{v:Int}(h:k < xs.length):aH (xs.set k v) k=v:=by unfold aH;rw [zZ,List.getElem?_set_self h];rfl
theorem eV {xs:List Int}{k j:Nat}{v:Int}(h:k≠j):aH (xs.set k v) j=aH xs j:=by unfold aH;rw [zZ,zZ,List.getElem?_set_ne h]
structure Hf (ss:List S3) (ok:S3->Prop) (bg rs aL:List Int):Prop where
 bl:bg.length=ss.length
 rl:rs.length=ss.length
 KI:aL.length=ss.length
 b0:∀ x∈bg,(0:Int)<=x
 r0:∀ x∈aL,(0:Int)<=x
 gw:∀ k s,ss[k]?=some s->0 < aH bg k->ok s
 eq:∀ k:Nat,k < ss.length->aH aL k=aH rs k - aH bg k
theorem Hf.start {ss:List S3}{ok:S3->Prop}{rs:List Int}(h:rs.length=ss.length)(r0:∀ x∈rs,(0:Int)<=x):Hf ss ok (List.replicate ss.length 0) rs rs where
 bl:=yb ..
 rl:=h
 KI:=h
 b0:=λx hx=>by rw [(List.mem_replicate.mp hx).2];exact yp _
 r0:=r0
 gw:=λk s _ p=>by
  unfold aH at p;rw [zZ,yi] at p;split at p <;> exact absurd p (by decide)
 eq:=λk hk=>by
  have:aH (List.replicate ss.length 0) k=0:=by unfold aH;rw [zZ,yi,if_pos hk];rfl
  omega
def gP (bg:List Int)(o:Option Nat)(s:Int):List Int:=match o with
 | none=>bg
 | some k=>bg.set k (aH bg k + s)
def lR (rs:List Int)(o:Option Nat)(s:Int):List Int:=match o with
 | none=>rs
 | some k=>rs.set k (aH rs k - s)
def eN (o:Option Nat)(s:Int):Int:=match o with
 | none=>0
 | some _=>s
theorem Hf.up {ss:List S3}{ok:S3->Prop}{bg rs aL:List Int}{o:Option Nat}{s:Int}(h:Hf ss ok bg rs aL)(s0:0<=s)(ho:∀ k,o=some k->∃ x,ss[k]?=some x/\ok x/\s<=aH aL k):Hf ss ok (gP bg o s) rs (lR aL o s):=by
 cases o with
 | none=>exact h
 | some k=>
  obtain ⟨x,hx,bh,hs⟩:=ho k rfl;have hk:k < ss.length:=(zQ.mp hx).1;have kb:k < bg.length:=by rw [h.bl];exact hk
  have kr:k < aL.length:=by rw [h.KI];exact hk
  have b0:=h.b0 _ (qT kb);refine ⟨by unfold gP;rw [yI,h.bl],h.rl,by unfold lR;rw [yI,h.KI],λy hy=>?_,λy hy=>?_,λj z hz p=>?_,λj hj=>?_⟩
  ·rcases yE hy with q | q
   ·exact h.b0 y q
   ·omega
  ·rcases yE hy with q | q
   ·exact h.r0 y q
   ·omega
  ·by_cases e:k=j
   ·subst e;rw [hx] at hz;cases hz;exact bh
   ·unfold gP at p;dsimp only at p;rw [eV e] at p;exact h.gw j z hz p
  ·unfold gP lR;dsimp only;by_cases e:k=j
   ·subst e;rw [iJ kb,iJ kr,h.eq k hk];omega
   ·rw [eV e,eV e,h.eq j hj]
theorem fQ {s:S3}{ss:List S3}{n:Int}{ns:List Int}{w:Int}:bE (s::ss) (n::ns) w=(if s.w=w then n else 0) + bE ss ns w:=by
 unfold bE;rw [yW,List.filter_cons];by_cases c:s.w=w
 ·simp [c]
 ·simp [c]
theorem nJ:∀ {ss:List S3}{bg:List Int}{k:Nat}{s:S3}{v w:Int},ss[k]?=some s->k < bg.length->bE ss (bg.set k (aH bg k + v)) w=bE ss bg w + if s.w=w then v else 0
 | [],_,_,_,_,_,h,_=>by simp at h
 | _::_,[],_,_,_,_,_,h=>by simp at h
 | t::ss,b::bg,0,s,v,w,h,_=>by
  cases h;have:aH (b::bg) 0=b:=rfl;rw [this,zM,fQ,fQ];by_cases c:t.w=w
  ·rw [if_pos c,if_pos c,if_pos c];omega
  ·rw [if_neg c,if_neg c,if_neg c];omega
 | t::ss,b::bg,k + 1,s,v,w,h,hk=>by
  have e:aH (b::bg) (k + 1)=aH bg k:=rfl;have:=nJ (ss:=ss) (bg:=bg) (k:=k) (s:=s) (v:=v) (w:=w) h (by simpa using hk);rw [e,zN,fQ,fQ,this];omega
theorem K5 {ss:List S3}{bg:List Int}{o:Option Nat}{v G:Int}(ho:∀ k,o=some k->k < bg.length/\∃ x,ss[k]?=some x/\x.w=G):bE ss (gP bg o v) G=bE ss bg G + eN o v/\∀ w,w≠G->bE ss (gP bg o v) w=bE ss bg w:=by
 cases o with
 | none=>exact ⟨by unfold gP eN;simp,λ_ _=>rfl⟩
 | some k=>
  obtain ⟨hk,x,hx,e⟩:=ho k rfl;unfold gP eN;dsimp only;refine ⟨by rw [nJ hx hk,if_pos e],λw hw=>by rw [nJ hx hk,if_neg (by rw [e];exact hw.symm)];simp⟩
def jK (bs:List Int)(w:Int)(o:Option Nat)(s:Int):List Int:=match o with
 | none=>bs.set w.toNat (aP bs w + s)
 | some _=>bs
theorem jJ {bs:List Int}{w:Int}{o:Option Nat}{s:Int}:(jK bs w o s).length=bs.length:=by unfold jK;cases o <;> simp
theorem tY {bs:List Int}{w:Int}{o:Option Nat}{s:Int}(h0:0<=w)(h1:w < bs.length):aP (jK bs w o s) w=aP bs w + (s - eN o s):=by
 cases o with
 | none=>unfold jK eN;dsimp only;rw [Mp h0 h1];omega
 | some k=>unfold jK eN;dsimp only;omega
theorem jc {bs:List Int}{w v:Int}{o:Option Nat}{s:Int}(h0:0<=w)(hv:0<=v)(ne:w≠v):aP (jK bs w o s) v=aP bs v:=by
 cases o with
 | none=>unfold jK;dsimp only;exact JH h0 hv ne
 | some k=>rfl
structure RI (r:M4) (ls ws:List S3) (aa bs rs ks:List Int) (g0 g1 a0 a1:Int) (bg cm bs' aL aO:List Int):Prop where
 L:Hf ls (λs=>(s.w=r.lo\/s.w=r.hi)/\s.t < r.t) bg rs aL
 W:Hf ws (λs=>(s.w=r.lo\/s.w=r.hi)/\s.t ≥ r.t) cm ks aO
 z0:0<=g0
 z1:0<=g1
 gm:g0 + g1<=r.m
 Ve:a0=aP bs r.lo - (g0 - bE ls bg r.lo)
 Vd:a1=aP bs r.hi - (g1 - bE ls bg r.hi)
 p0:0<=a0
 p1:0<=a1
 o0:0<=g0 - bE ls bg r.lo
 o1:0<=g1 - bE ls bg r.hi
 i0:0<=g1 - bE ws cm r.lo
 i1:0<=g0 - bE ws cm r.hi
 bl:bs'.length=bs.length
 Vi:aP bs' r.lo=aP bs r.lo + ((g1 - bE ws cm r.lo) - (g0 - bE ls bg r.lo))
 Vj:aP bs' r.hi=aP bs r.hi + ((g0 - bE ws cm r.hi) - (g1 - bE ls bg r.hi))
 bo:∀ w:Int,0<=w->w≠r.lo->w≠r.hi->aP bs' w=aP bs w
 rm:∀ w:Int,0<=w->w < aa.length->aP bs' w<=aP aa w
def M4.swap (r:M4):M4:=⟨r.hi,r.lo,r.t,r.m⟩
theorem RI.swap {r:M4}{ls ws:List S3}{aa bs rs ks:List Int}{g0 g1 a0 a1:Int}{bg cm bs' aL aO:List Int}(h:RI r ls ws aa bs rs ks g0 g1 a0 a1 bg cm bs' aL aO):RI r.swap ls ws aa bs rs ks g1 g0 a1 a0 bg cm bs' aL aO where
 L:=⟨h.L.bl,h.L.rl,h.L.KI,h.L.b0,h.L.r0,λk s hs p=>⟨(h.L.gw k s hs p).1.symm,(h.L.gw k s hs p).2⟩,h.L.eq⟩
 W:=⟨h.W.bl,h.W.rl,h.W.KI,h.W.b0,h.W.r0,λk s hs p=>⟨(h.W.gw k s hs p).1.symm,(h.W.gw k s hs p).2⟩,h.W.eq⟩
 z0:=h.z1
 z1:=h.z0
 gm:=by have:=h.gm;show g1 + g0<=r.m;omega
 Ve:=h.Vd
 Vd:=h.Ve
 p0:=h.p1
 p1:=h.p0
 o0:=h.o1
 o1:=h.o0
 i0:=h.i1
 i1:=h.i0
 bl:=h.bl
 Vi:=h.Vj
 Vj:=h.Vi
 bo:=λw w0 n1 n2=>h.bo w w0 n2 n1
 rm:=h.rm
def Vs (ss:List S3)(G:Int)(ok:S3->Prop)(aL:List Int)(a s:Int)(o:Option Nat):Prop:=match o with
 | none=>s<=a
 | some k=>∃ x,ss[k]?=some x/\x.w=G/\ok x/\s<=aH aL k
theorem RI.OM {r:M4}{ls ws:List S3}{aa bs rs ks:List Int}{g0 g1 a0 a1 s:Int}{bg cm bs' aL aO:List Int}{o1 o2:Option Nat}(h:RI r ls ws aa bs rs ks g0 g1 a0 a1 bg cm bs' aL aO)
  (hr:0<=r.lo/\r.lo < bs.length/\0<=r.hi/\r.hi < bs.length/\r.lo≠r.hi) (rl:bs.length=aa.length) (s1:1<=s) (sm:s<=r.m - (g0 + g1))
  (h1:Vs ls r.lo (λx=>x.t < r.t) aL a0 s o1) (h2:Vs ws r.hi (λx=>x.t ≥ r.t) aO (aP aa r.hi - aP bs' r.hi) s o2) :
  RI r ls ws aa bs rs ks (g0 + s) g1 (a0 - (s - eN o1 s)) a1 (gP bg o1 s) (gP cm o2 s) (jK (jK bs' r.lo o1 (-s)) r.hi o2 s) (lR aL o1 s) (lR aO o2 s):=by
 obtain ⟨l0,l1,h0,h1',ne⟩:=hr;have l2:r.lo < bs'.length:=by rw [h.bl];exact l1
 have h2':r.hi < (jK bs' r.lo o1 (-s)).length:=by rw [jJ,h.bl];exact h1'
 have e1:∀ k,o1=some k->∃ x,ls[k]?=some x/\x.w=r.lo/\x.t < r.t/\s<=aH aL k:=λk e=>by subst e;exact h1
 have e2:∀ k,o2=some k->∃ x,ws[k]?=some x/\x.w=r.hi/\x.t ≥ r.t/\s<=aH aO k:=λk e=>by subst e;exact h2
 obtain ⟨f1,f2⟩:=K5 (ss:=ls) (bg:=bg) (o:=o1) (v:=s) (G:=r.lo) λk e=>by
  obtain ⟨x,hx,hw,_⟩:=e1 k e;exact ⟨by rw [h.L.bl];exact (zQ.mp hx).1,x,hx,hw⟩
 obtain ⟨f3,f4⟩:=K5 (ss:=ws) (bg:=cm) (o:=o2) (v:=s) (G:=r.hi) λk e=>by
  obtain ⟨x,hx,hw,_⟩:=e2 k e;exact ⟨by rw [h.W.bl];exact (zQ.mp hx).1,x,hx,hw⟩
 have f2:=f2 r.hi ne.symm;have f4:=f4 r.lo ne;have n1:eN o1 (-s)=- eN o1 s:=by cases o1 <;> simp [eN]
 have q1:0<=eN o1 s/\eN o1 s<=s:=by cases o1 <;> simp only [eN] <;> omega
 have q2:0<=eN o2 s/\eN o2 s<=s:=by cases o2 <;> simp only [eN] <;> omega
 have w1:s - eN o1 s<=a0:=by
  cases o1 with
  | none=>have h1:s<=a0:=h1;simp only [eN];omega
  | some k=>have:=h.p0;simp only [eN];omega
 have w2:aP bs' r.hi + (s - eN o2 s)<=aP aa r.hi:=by
  cases o2 with
  | none=>have h2:s<=aP aa r.hi - aP bs' r.hi:=h2;simp only [eN];omega
  | some k=>have:=h.rm r.hi h0 (by omega);simp only [eN];omega
 have b1:aP (jK (jK bs' r.lo o1 (-s)) r.hi o2 s) r.lo=aP bs' r.lo + (-s - eN o1 (-s)):=by rw [jc h0 l0 ne.symm,tY l0 l2]
 have b2:aP (jK (jK bs' r.lo o1 (-s)) r.hi o2 s) r.hi=aP bs' r.hi + (s - eN o2 s):=by rw [tY h0 h2',jc l0 h0 ne]
 have:=h.gm;have:=h.Ve;have:=h.Vd;have:=h.p0;have:=h.p1;have:=h.o0;have:=h.o1;have:=h.i0;have:=h.i1;have:=h.Vi;have:=h.Vj;have:=h.z0;have:=h.z1;refine ⟨h.L.up (by omega) λk e=>?_,h.W.up (by omega) λk e=>?_,by omega,by omega,by omega,by rw [f1];omega,by rw [f2];omega,by omega,by omega,by rw [f1];omega,by rw [f2];omega,by rw [f4];omega,by rw [f3];omega,by rw [jJ,jJ,h.bl],by rw [b1,f1,f4,n1];omega,by rw [b2,f2,f3];omega,λw w0 m1 m2=>?_,λw w0 w1=>?_⟩
 ·obtain ⟨x,hx,hw,ht,hs⟩:=e1 k e;exact ⟨x,hx,⟨.inl hw,ht⟩,hs⟩
 ·obtain ⟨x,hx,hw,ht,hs⟩:=e2 k e;exact ⟨x,hx,⟨.inr hw,ht⟩,hs⟩
 ·rw [jc h0 w0 m2.symm,jc l0 w0 m1.symm];exact h.bo w w0 m1 m2
 ·by_cases c1:w=r.hi
  ·rw [c1,b2];exact w2
  ·rw [jc h0 w0 (Ne.symm c1)];by_cases c2:w=r.lo
   ·rw [c2,tY l0 l2,n1];have:=h.rm r.lo l0 (by omega);omega
   ·rw [jc l0 w0 (Ne.symm c2)];exact h.rm w w0 w1
def sel {α:Type}(way:Int)(x y:α):α:=if way=0 then x else y
theorem RI.step {r:M4}{ls ws:List S3}{aa bs rs ks:List Int}{g0 g1 a0 a1 s way:Int}{bg cm bs' aL aO:List Int}{o1 o2:Option Nat}(h:RI r ls ws aa bs rs ks g0 g1 a0 a1 bg cm bs' aL aO)(hw:way=0\/way=1)
  (hr:0<=r.lo/\r.lo < bs.length/\0<=r.hi/\r.hi < bs.length/\r.lo≠r.hi) (rl:bs.length=aa.length) (s1:1<=s) (sm:s<=r.m - (g0 + g1))
  (h1:Vs ls (sel way r.lo r.hi) (λx=>x.t < r.t) aL (sel way a0 a1) s o1) (h2:Vs ws (sel way r.hi r.lo) (λx=>x.t ≥ r.t) aO (aP aa (sel way r.hi r.lo) - aP bs' (sel way r.hi r.lo)) s o2) :
  RI r ls ws aa bs rs ks (sel way (g0 + s) g0) (sel way g1 (g1 + s)) (sel way (a0 - (s - eN o1 s)) a0) (sel way a1 (a1 - (s - eN o1 s))) (gP bg o1 s) (gP cm o2 s) (jK (jK bs' (sel way r.lo r.hi) o1 (-s)) (sel way r.hi r.lo) o2 s) (lR aL o1 s) (lR aO o2 s):=by
 rcases hw with rfl | rfl
 ·exact h.OM hr rl s1 sm h1 h2
 ·exact (RI.OM (r:=r.swap) h.swap ⟨hr.2.2.1,hr.2.2.2.1,hr.1,hr.2.1,hr.2.2.2.2.symm⟩ rl s1 (by show s<=r.m - (g1 + g0);omega) h1 h2).swap
theorem RI.start {r:M4}{ls ws:List S3}{aa bs rs ks:List Int}(lr:rs.length=ls.length)(lk:ks.length=ws.length)(r0:∀ x∈rs,(0:Int)<=x)(k0:∀ x∈ks,(0:Int)<=x)(rm:0<=r.m)
  (b0:∀ w:Int,0<=aP bs w) (br:∀ w:Int,0<=w->w < aa.length->aP bs w<=aP aa w):RI r ls ws aa bs rs ks 0 0 (aP bs r.lo) (aP bs r.hi) (List.replicate ls.length 0) (List.replicate ws.length 0) bs rs ks:=by
 have z:∀ (ss:List S3) (w:Int),bE ss (List.replicate ss.length 0) w=0:=λss w=>by
  induction ss with
  | nil=>rfl
  | cons s ss ih=>rw [zH,ya,fQ,ih];split <;> rfl
 exact ⟨Hf.start lr r0,Hf.start lk k0,by omega,by omega,by omega,by rw [z];omega,by rw [z];omega,b0 _,b0 _,by rw [z];omega,by rw [z];omega,by rw [z];omega,by rw [z];omega,rfl,by rw [z,z];omega,by rw [z,z];omega,λ_ _ _ _=>rfl,br⟩
structure Mv (r:M4) (ls ws:List S3) (aa bs rs ks:List Int) (x:R4) (bs' aL aO:List Int):Prop where
 ok:x.ok ls.length ws.length
 win:aQ r ls ws x=true
 beh:aM bs r ls ws x=some bs'
 bl:bs'.length=bs.length
 b0:∀ w:Int,0<=aP bs' w
 br:∀ w:Int,0<=w->w < aa.length->aP bs' w<=aP aa w
 rl:aL.length=ls.length
 kl:aO.length=ws.length
 r0:∀ y∈aL,(0:Int)<=y
 k0:∀ y∈aO,(0:Int)<=y
 re:∀ k:Nat,k < ls.length->aH aL k=aH rs k - aH x.bg k
 ke:∀ k:Nat,k < ws.length->aH aO k=aH ks k - aH x.cm k
theorem Oq {xs ys:List Int}(l:xs.length=ys.length)(h:∀ w:Int,0<=w->aP xs w=aP ys w):xs=ys:=by
 refine yu λi=>?_;by_cases hi:i < xs.length
 ·have:=h (i:Int) (by omega);unfold aP at this;rw [yA,zZ,zZ,zF hi,zF (by omega)] at this;rw [zF hi,zF (by omega)];exact congrArg some this
 ·rw [yF (by omega),yF (by omega)]
theorem RI.done {r:M4}{ls ws:List S3}{aa bs rs ks:List Int}{g0 g1 a0 a1:Int}{bg cm bs' aL aO:List Int}(h:RI r ls ws aa bs rs ks g0 g1 a0 a1 bg cm bs' aL aO)
  (hr:0<=r.lo/\r.lo < bs.length/\0<=r.hi/\r.hi < bs.length/\r.lo≠r.hi) (b0:∀ w:Int,0<=aP bs w):Mv r ls ws aa bs rs ks ⟨g0,g1,bg,cm⟩ bs' aL aO:=by
 obtain ⟨l0,l1,h0,h1,ne⟩:=hr;have nat:∀ w:Int,∃ v:Int,0<=v/\∀ xs:List Int,aP xs w=aP xs v:=λw=>⟨w.toNat,by omega,λxs=>by unfold aP;rw [yA]⟩;have all:∀ (ss:List S3) (ns:List Int) (bad:S3->Bool),ns.length=ss.length->(∀ k s,ss[k]?=some s->0 < aH ns k->(s.w=r.lo\/s.w=r.hi)/\bad s=false)->(ss.zip ns).all (dg r bad)=true:=λss ns bad ln hh=>by
  rw [yH];intro p hp;obtain ⟨k,hk⟩:=yV hp;rw [yQ] at hk;have kn:k < ns.length:=(zQ.mp hk.2).1;have e2:aH ns k=p.2:=Option.some.inj ((wY kn).symm.trans hk.2);unfold dg;by_cases c:0 < p.2
  ·obtain ⟨q1,q2⟩:=hh k p.1 hk.1 (by rw [e2];exact c);rw [q2,Bool.or_false];rcases q1 with q1 | q1 <;> simp [q1]
  ·rw [decide_eq_false c];rfl
 refine ⟨⟨h.z0,h.z1,h.L.bl,h.W.bl,h.L.b0,h.W.b0⟩,?_,?_,h.bl,λw=>?_,h.rm,h.L.KI,h.W.KI,h.L.r0,h.W.r0,h.L.eq,h.W.eq⟩
 ·unfold aQ;rw [all ls bg _ h.L.bl λk s hs p=>⟨(h.L.gw k s hs p).1,by have:=(h.L.gw k s hs p).2;simp;omega⟩,all ws cm _ h.W.bl λk s hs p=>⟨(h.W.gw k s hs p).1,by have:=(h.W.gw k s hs p).2;simp;omega⟩];simpa using h.gm
 ·unfold aM;have:=h.Ve;have:=h.Vd;have:=h.p0;have:=h.p1;have c1:bC bs r.lo (g0 - bE ls bg r.lo) (g1 - bE ws cm r.lo)=true:=by unfold bC;rw [decide_eq_true h.o0,decide_eq_true h.i0,decide_eq_true (by omega)];rfl
  have c2:bC bs r.hi (g1 - bE ls bg r.hi) (g0 - bE ws cm r.hi)=true:=by unfold bC;rw [decide_eq_true h.o1,decide_eq_true h.i1,decide_eq_true (by omega)];rfl
  dsimp only;rw [c1,c2];refine congrArg some (Oq (by rw [yI,yI,h.bl]) λw w0=>?_);by_cases e1:w=r.hi
  ·rw [e1,Mp h0 (by rw [yI];exact h1),h.Vj]
  ·rw [JH h0 w0 (Ne.symm e1)];by_cases e2:w=r.lo
   ·rw [e2,Mp l0 l1,h.Vi]
   ·rw [JH l0 w0 (Ne.symm e2),h.bo w w0 e2 e1]
 ·obtain ⟨v,v0,ev⟩:=nat w;rw [ev];have:=h.Ve;have:=h.Vd;have:=h.p0;have:=h.p1;have:=h.i0;have:=h.i1;by_cases e1:v=r.hi
  ·rw [e1,h.Vj];omega
  ·by_cases e2:v=r.lo
   ·rw [e2,h.Vi];omega
   ·rw [h.bo v v0 e2 e1];exact b0 v
theorem fk {N:St->Hp->Prop}{σ:St}(bK:St){H:Hp}(e:σ=bK)(h:N bK H):N σ H:=by rw [e];exact h
theorem cU {i:Nat}{v:V}{Q:St->Hp->Prop}{σ:St}(bK:St){H:Hp}(e:σ.set i (some v)=bK)(h:Q bK H):iI i v σ H Q:=by unfold iI;rw [e];exact h
def A7 (a b c d e f g:Addr):Nat->Addr
 | 0=>a | 1=>b | 2=>c | 3=>d | 4=>e | 5=>f | _=>g
def F7 (a b c d e f g:List Int):Nat->List Int
 | 0=>a | 1=>b | 2=>c | 3=>d | 4=>e | 5=>f | _=>g
structure jf (H0:Hp) (p:Addr) (A:Nat->Addr):Prop where
 inj:∀ i j,i < 7->j < 7->A i=A j->i=j
 np:∀ i,i < 7->A i≠p
 fr:∀ i,3<=i->i < 7->H0 (A i)=none
structure bB (H0:Hp) (p:Addr) (A:Nat->Addr) (F:Nat->List Int) (H:Hp):Prop where
 pu:aK H p
 ls:∀ i,i < 7->H (A i)=some (.lst ((F i).map V.int))
 kp:∀ c u,c≠p->c≠A 0->c≠A 1->c≠A 2->H0 c=some u->H c=some u
theorem bB.go {H0:Hp}{p:Addr}{A:Nat->Addr}{F:Nat->List Int}{H H':Hp}(h:bB H0 p A F H)(a:jf H0 p A)(g:Go p H H'):bB H0 p A F H':=
 ⟨g.2,λi hi=>g.1 _ _ (a.np i hi) (h.ls i hi),λc u n0 n1 n2 n3 e=>g.1 _ _ n0 (h.kp c u n0 n1 n2 n3 e)⟩
theorem bB.same {H0:Hp}{p:Addr}{A:Nat->Addr}{F:Nat->List Int}{H H':Hp}(h:bB H0 p A F H)(s:ay H H'):bB H0 p A F H':=
 ⟨by obtain ⟨a,b,c,e⟩:=h.pu;exact ⟨a,b,c,s _ _ e⟩,λi hi=>s _ _ (h.ls i hi),λc u n0 n1 n2 n3 e=>s _ _ (h.kp c u n0 n1 n2 n3 e)⟩
theorem bB.set {H0:Hp}{p:Addr}{A:Nat->Addr}{F F':Nat->List Int}{H:Hp}(h:bB H0 p A F H)(a:jf H0 p A){i:Nat}{ys:List V}(hi:i < 7)(e:ys=(F' i).map V.int)(o:∀ j,j < 7->j≠i->F' j=F j):bB H0 p A F' (upd H (A i) (.lst ys)):=by
 refine ⟨?_,λj hj=>?_,λc u n0 n1 n2 n3 q=>?_⟩
 ·obtain ⟨x,y,z,q⟩:=h.pu;exact ⟨x,y,z,by rw [xj (a.np i hi).symm];exact q⟩
 ·by_cases c:j=i
  ·subst c;rw [xQ,e]
  ·rw [xj (λz=>c (a.inj j i hj hi z)),o j hj c];exact h.ls j hj
 ·have ne:c≠A i:=by
   intro z;subst z;by_cases k:i < 3
   ·match i,k with
    | 0,_=>exact n1 rfl
    | 1,_=>exact n2 rfl
    | 2,_=>exact n3 rfl
   ·rw [a.fr i (by omega) hi] at q;cases q
  rw [xj ne];exact h.kp c u n0 n1 n2 n3 q
theorem bB.SM {H0:Hp}{p:Addr}{A:Nat->Addr}{a b c d e f g y:List Int}{H:Hp}{ys:List V}(h:bB H0 p A (F7 a b c d e f g) H)(r:jf H0 p A)(q:ys=y.map V.int):bB H0 p A (F7 y b c d e f g) (upd H (A 0) (.lst ys)):=h.set r (by decide) q λj hj n=>by rcases j with _ | _ | _ | _ | _ | _ | _ | j <;> first | exact absurd rfl n | rfl
theorem bB.Yp {H0:Hp}{p:Addr}{A:Nat->Addr}{a b c d e f g y:List Int}{H:Hp}{ys:List V}(h:bB H0 p A (F7 a b c d e f g) H)(r:jf H0 p A)(q:ys=y.map V.int):bB H0 p A (F7 a y c d e f g) (upd H (A 1) (.lst ys)):=h.set r (by decide) q λj hj n=>by rcases j with _ | _ | _ | _ | _ | _ | _ | j <;> first | exact absurd rfl n | rfl
theorem bB.Yo {H0:Hp}{p:Addr}{A:Nat->Addr}{a b c d e f g y:List Int}{H:Hp}{ys:List V}(h:bB H0 p A (F7 a b c d e f g) H)(r:jf H0 p A)(q:ys=y.map V.int):bB H0 p A (F7 a b y d e f g) (upd H (A 2) (.lst ys)):=h.set r (by decide) q λj hj n=>by rcases j with _ | _ | _ | _ | _ | _ | _ | j <;> first | exact absurd rfl n | rfl
theorem bB.Yn {H0:Hp}{p:Addr}{A:Nat->Addr}{a b c d e f g y:List Int}{H:Hp}{ys:List V}(h:bB H0 p A (F7 a b c d e f g) H)(r:jf H0 p A)(q:ys=y.map V.int):bB H0 p A (F7 a b c y e f g) (upd H (A 3) (.lst ys)):=h.set r (by decide) q λj hj n=>by rcases j with _ | _ | _ | _ | _ | _ | _ | j <;> first | exact absurd rfl n | rfl
theorem bB.Ym {H0:Hp}{p:Addr}{A:Nat->Addr}{a b c d e f g y:List Int}{H:Hp}{ys:List V}(h:bB H0 p A (F7 a b c d e f g) H)(r:jf H0 p A)(q:ys=y.map V.int):bB H0 p A (F7 a b c d y f g) (upd H (A 4) (.lst ys)):=h.set r (by decide) q λj hj n=>by rcases j with _ | _ | _ | _ | _ | _ | _ | j <;> first | exact absurd rfl n | rfl
theorem bB.Yl {H0:Hp}{p:Addr}{A:Nat->Addr}{a b c d e f g y:List Int}{H:Hp}{ys:List V}(h:bB H0 p A (F7 a b c d e f g) H)(r:jf H0 p A)(q:ys=y.map V.int):bB H0 p A (F7 a b c d e y g) (upd H (A 5) (.lst ys)):=h.set r (by decide) q λj hj n=>by rcases j with _ | _ | _ | _ | _ | _ | _ | j <;> first | exact absurd rfl n | rfl
theorem bB.Yk {H0:Hp}{p:Addr}{A:Nat->Addr}{a b c d e f g y:List Int}{H:Hp}{ys:List V}(h:bB H0 p A (F7 a b c d e f g) H)(r:jf H0 p A)(q:ys=y.map V.int):bB H0 p A (F7 a b c d e f y) (upd H (A 6) (.lst ys)):=h.set r (by decide) q λj hj n=>by rcases j with _ | _ | _ | _ | _ | _ | j <;> first | exact absurd rfl n | rfl | omega
def opts (ks:List Nat)(b:Bool):List Int:=ks.map (λk:Nat=>(k:Int))++if b then [-1] else []
def oI:Option Nat->Int
 | none=>-1
 | some k=>(k:Int)
def pk (rs:List Int)(a:Int):Option Nat->Int
 | none=>a
 | some k=>aH rs k
theorem uN {ks:List Nat}{b:Bool}{i:Nat}{x:Int}(h:(opts ks b)[i]?=some x):∃ o:Option Nat,x=oI o/\(o=none->b=true)/\∀ k,o=some k->k∈ks:=by
 have hm:=zC h;unfold opts at hm;rcases zV.mp hm with q | q
 ·obtain ⟨k,hk,rfl⟩:=zX.mp q;exact ⟨some k,rfl,nofun,λj e=>by cases e;exact hk⟩
 ·cases b with
  | false=>simp at q
  | true=>
   have q:x=-1:=by simpa using q
   exact ⟨none,q,λ_=>rfl,nofun⟩
theorem ki {b:Bool}:(List.replicate (Int.toNat (if b then 1 else 0)) [V.int (-1)]).flatten=(if b then [(-1:Int)] else []).map V.int:=by cases b <;> rfl
theorem pO {ks:List Nat}{b:Bool}:(ks.map λk:Nat=>V.int (k:Int))++(if b then [(-1:Int)] else []).map V.int=(opts ks b).map V.int:=by unfold opts;rw [zB,zz];rfl
theorem uL {rs:List Int}{a:Int}{o:Option Nat}(h:∀ k,o=some k->k < rs.length):bQ (rs.map V.int++[V.int a]) (oI o)=some (V.int (pk rs a o)):=by
 cases o with
 | none=>
  show bQ _ (-1)=some (V.int a);unfold bQ tE;rw [if_neg (by decide),if_pos (by rw [zU,zA];show -((rs.length + 1:Nat):Int)<=-1;omega)];show (rs.map V.int++[V.int a])[_]?=_;rw [yL (by rw [zA,zU,zA];show _<=(-1 + ((rs.length + 1:Nat):Int)).toNat;omega)];rw [zA,zU,zA];show [V.int a][(-1 + ((rs.length + 1:Nat):Int)).toNat - rs.length]?=_;rw [show (-1 + ((rs.length + 1:Nat):Int)).toNat - rs.length=0 by omega];rfl
 | some k=>
  show bQ _ ((k:Nat):Int)=some (V.int (aH rs k));refine wA ?_;rw [yZ (by rw [zA];exact h k rfl),zD,wY (h k rfl)];rfl
theorem uO {x:V}:[x].length<=sizeLine:=by rw [sizeLine_eq];show 1<=_;decide
theorem J9 {x y:V}:[x,y].length<=sizeLine:=by rw [sizeLine_eq];show 2<=_;decide
theorem Rn {x y z u:V}:[x,y,z,u].length<=sizeLine:=by rw [sizeLine_eq];show 4<=_;decide
theorem Ke {os:List Int}(h:0 < os.length)(h2:os.length<=9):(0:Int) < ((os.map V.int).length:Nat)/\(((os.map V.int).length:Nat):Int) < 2 ^ 200:=by
 have lU:(2:Int) ^ 200 > 10000:=by decide
 rw [zA];omega
theorem Pe {os:List Int}{x:V}(h:os.length<=8):(os.map V.int).length + [x].length<=sizeLine:=by rw [sizeLine_eq,zA];show os.length + 1<=_;omega
theorem uA {os:List Int}{i:Nat}(h:(i:Int) < ((os.map V.int).length:Nat)):∃ x,os[i]?=some x:=by rw [zA] at h;exact ⟨_,zF (by omega)⟩
theorem Ry (x:V)(b:Bool):-(2:Int) ^ 63<=(if b=true then 1 else 0)/\(if b=true then (1:Int) else 0) < 2 ^ 63/\([x]:List V).length * Int.toNat (if b=true then 1 else 0)<=sizeLine:=by
 rw [sizeLine_eq];cases b
 ·exact ⟨by decide,by decide,by show 1 * 0<=_;decide⟩
 ·exact ⟨by decide,by decide,by show 1 * 1<=_;decide⟩
theorem Lj {ks:List Nat}(b:Bool)(h1:ks.length<=8):(ks.map λk:Nat=>V.int (k:Int)).length + ((List.replicate (Int.toNat (if b=true then 1 else 0)) [V.int (-1)]).flatten).length<=sizeLine:=by rw [ki,zA,zA,sizeLine_eq];cases b <;> simp only [if_true,if_false,zw,zH,zL] <;> omega
theorem pP {ks:List Nat}{b:Bool}(h1:ks.length<=8):(opts ks b).length<=9:=by unfold opts;rw [zU,zA];cases b <;> simp only [if_true,if_false,zw,zH,zL] <;> omega
theorem pN {os:List Int}(h:(os.map V.int).isEmpty=false):0 < os.length:=by
 cases os with
 | nil=>cases h
 | cons _ _=>exact Nat.succ_pos _
theorem TF {a b m:Int}(h:a + b<=m)(c:m - (a + b)≠0):0 < m - (a + b):=by omega
theorem Tz {a b m:Int}(h:0<=a)(h':0<=b)(c:m<=99):m - (a + b)<=99:=by omega
theorem s36 {s d M:Int}(e:s=1 + d)(h:d < M):s<=M:=by omega
theorem Yq {s d:Int}(e:s=1 + d)(h:0<=d):1<=s:=by omega
theorem pK {ss:List S3}{rs:List Int}{w t j a:Int}{ks:List Nat}{b:Bool}{o:Option Nat}(mem:∀ k∈ks,∃ s r,ss[k]?=some s/\rs[k]?=some r/\s.w=w/\tP j s t=true/\0 < r)(ob:o=none->b=true)(om:∀ k,o=some k->k∈ks)(hb:b=true->0 < a) :
  (∀ k,o=some k->k < rs.length)/\0 < pk rs a o/\∀ s:Int,s<=pk rs a o->∀ ok:S3->Prop,(∀ x,tP j x t=true->ok x)->Vs ss w ok rs a s o:=by
 cases o with
 | none=>exact ⟨nofun,hb (ob rfl),λs h ok _=>h⟩
 | some k=>
  obtain ⟨x,y,hx,hy,hw,hf,h0⟩:=mem k (om k rfl);have hk:=(zQ.mp hy).1;have e:=Option.some.inj ((wY hk).symm.trans hy);refine ⟨λm z=>by cases z;exact hk,by show 0 < aH rs k;rw [e];exact h0,λs h ok q=>⟨x,hx,hw,q x hf,h⟩⟩
theorem NV (a b c:Int)(ha:0 < a)(h9:a<=99)(hb:0 < b)(hc:0 < c):∃ M:Int,(if c < (if b < a then b else a) then c else (if b < a then b else a))=M/\0 < M/\M < 2 ^ 200/\M<=a/\M<=b/\M<=c:=by
 have lU:(2:Int) ^ 200 > 10000:=by decide
 exact ⟨_,rfl,by split <;> split <;> omega,by split <;> split <;> omega,by split <;> split <;> omega,by split <;> split <;> omega,by split <;> split <;> omega⟩
theorem kR (n:Nat):(List.replicate n [V.int 0]).flatten=(List.replicate n (0:Int)).map V.int:=by
 induction n with
 | zero=>rfl
 | succ n ih=>rw [ya,xB,ih,ya,zI];rfl
theorem jf.mk7 {H0:Hp}{p a b c d e f g:Addr}(nd:[a,b,c,d,e,f,g].Nodup)(np:∀ x∈[a,b,c,d,e,f,g],x≠p)(fd:H0 d=none)(fe:H0 e=none)(ff:H0 f=none)(fg:H0 g=none):jf H0 p (A7 a b c d e f g):=by
 have at7:∀ i,i < 7->[a,b,c,d,e,f,g][i]?=some (A7 a b c d e f g i):=λi hi=>by
  rcases i with _ | _ | _ | _ | _ | _ | _ | i <;> first | rfl | omega
 refine ⟨λi j hi hj ee=>(List.getElem?_inj (show i < [a,b,c,d,e,f,g].length from hi) nd).mp (by rw [at7 i hi,at7 j hj,ee]),λi hi=>np _ (zC (at7 i hi)),λi h3 hi=>?_⟩;rcases i with _ | _ | _ | _ | _ | _ | _ | i <;> first | omega | assumption
theorem bB.tup {H0:Hp}{p:Addr}{A:Nat->Addr}{F:Nat->List Int}{H:Hp}(h:bB H0 p A F H)(pu:aK H0 p)(l0:∀ i,i < 3->∃ xs,H0 (A i)=some (.lst xs)){c:Addr}{xs:List V}(e:H0 c=some (.tup xs)):H c=some (.tup xs):=by
 have ne:∀ i,i < 3->c≠A i:=λi hi=>by obtain ⟨ys,q⟩:=l0 i hi;exact qe e q (by intro z;cases z)
 exact h.kp c _ (pu.tup e) (ne 0 (by decide)) (ne 1 (by decide)) (ne 2 (by decide)) e
theorem bB.OP {H0:Hp}{p:Addr}{A:Nat->Addr}{F:Nat->List Int}{H:Hp}(h:bB H0 p A F H)(pu:aK H0 p)(l0:∀ i,i < 3->∃ xs,H0 (A i)=some (.lst xs)){l:Addr}{ss:List (Addr×S3)}(hs:aE H0 l ss)(n0:l≠p)(n1:l≠A 0)(n2:l≠A 1)(n3:l≠A 2):aE H l ss:=
 ⟨h.kp _ _ n0 n1 n2 n3 hs.l,λa ha=>h.tup pu l0 (hs.each a ha)⟩
theorem uB {way:Int}{x y z:Int}(h:way=0\/way=1):([x,y].map V.int).set way.toNat (V.int z)=([sel way z x,sel way y z]:List Int).map V.int:=by rcases h with rfl | rfl <;> rfl
theorem jB {way:Int}{x y:Int}(h:way=0\/way=1):bQ ([x,y].map V.int) way=some (V.int (sel way x y)):=by rcases h with rfl | rfl <;> rfl
theorem jV {α:Type}{way:Int}{x y:α}{P:α->Prop}(hx:P x)(hy:P y):P (sel way x y):=by unfold sel;split <;> assumption
theorem qq {H H1:Hp}{a:Addr}(s:ay H H1)(h:H1 a=none):H a=none:=by
 cases z:H a with
 | none=>rfl
 | some u=>rw [s _ _ z] at h;cases h
theorem bB.fresh {H0:Hp}{p:Addr}{A:Nat->Addr}{F:Nat->List Int}{H:Hp}(h:bB H0 p A F H){x:Addr}(hx:H x=none):H0 x=none:=by
 have n0:x≠p:=λz=>by obtain ⟨a,b,c,e⟩:=h.pu;rw [z,e] at hx;cases hx
 have n:∀ i,i < 7->x≠A i:=λi hi z=>by rw [z,h.ls i hi] at hx;cases hx
 cases z:H0 x with
 | none=>rfl
 | some u=>rw [h.kp x u n0 (n 0 (by decide)) (n 1 (by decide)) (n 2 (by decide)) z] at hx;cases hx
def Nh:Sp:=λvs H Q _=>∃ p tr m ll lw st lb lr lk,∃ aa:List Int,∃ r:M4,∃ ls ws bs rs ks,vs=[.ref p,.ref tr,.ref m,.ref ll,.ref lw,.ref st]/\aK H p/\H tr=some (.tup (aa.map V.int))/\H m=some (.tup [.int r.lo,.int r.hi,.int r.t,.int r.m])/\aE H ll ls/\aE H lw ws/\H st=some (.tup [.ref lb,.ref lr,.ref lk]) /\
 (H lb=some (.lst (List.map V.int bs))/\H lr=some (.lst (List.map V.int rs))/\H lk=some (.lst (List.map V.int ks)))/\(lb≠lr/\lb≠lk/\lr≠lk/\lb≠p/\lr≠p/\lk≠p)/\((ll≠p/\ll≠lb/\ll≠lr/\ll≠lk)/\lw≠p/\lw≠lb/\lw≠lr/\lw≠lk) /\
 (0<=r.lo/\r.lo < r.hi/\r.hi < aa.length/\1<=r.m/\r.m<=99)/\(bs.length=aa.length/\aa.length<=12/\rs.length=ls.length/\ks.length=ws.length/\ls.length<=8/\ws.length<=8)/\(∀ x∈rs,(0:Int)<=x)/\(∀ x∈ks,(0:Int)<=x)/\(∀ w:Int,0<=aP bs w)/\(∀ w:Int,0<=w->w < aa.length->aP bs w<=aP aa w) /\
 ∀ (x:RA) bs' aL aO H',(∀ c u,c≠p->c≠lb->c≠lr->c≠lk->H c=some u->H' c=some u)->aK H' p->H' lb=some (.lst (List.map V.int bs'))->H' lr=some (.lst (List.map V.int aL))->H' lk=some (.lst (List.map V.int aO))->RA.At H' x->(H x.a=none/\H x.b=none/\H x.c=none)->Mv r (ls.map (·.2)) (ws.map (·.2)) aa bs rs ks x.r bs' aL aO->Q (.ref x.a) H'
def cY (f:T3->Int)(ts:List T3)(k:Nat):Int:=((ts.filter λt=>decide (f t=(k:Int))).map (·.m)).sum
theorem gF {f:T3->Int}{ts:List T3}{t:T3}{k:Nat}:cY f (ts++[t]) k=cY f ts k + if f t=(k:Int) then t.m else 0:=by
 unfold cY;rw [List.filter_append,zB,yw];by_cases c:f t=(k:Int)
 ·simp [c]
 ·simp [c]
theorem Km:∀ {xs ys:List Int},xs.Perm ys->xs.sum=ys.sum:=λh=>by
 induction h with
 | nil=>rfl
 | cons x _ ih=>rw [ye,ye,ih]
 | swap x y l=>rw [ye,ye,ye,ye];omega
 | trans _ _ ZI ZH=>rw [ZI,ZH]
theorem jS {f:T3->Int}{ts us:List T3}{k:Nat}(h:ts.Perm us):cY f ts k=cY f us k:=Km ((h.filter _).map _)
structure eW (ls ws:List S3) (rs ks:List Int) (ts:List T3) (aL aO:List Int):Prop where
 ones:∀ t∈ts,T3.ok ls.length ws.length t
 str:∀ t∈ts,lO ls ws t=true
 nd:(ts.map λt=>[t.k,t.j]).Nodup
 rl:aL.length=ls.length
 kl:aO.length=ws.length
 r0:∀ y∈aL,(0:Int)<=y
 k0:∀ y∈aO,(0:Int)<=y
 re:∀ k:Nat,k < ls.length->aH aL k=aH rs k - cY (·.k) ts k
 ke:∀ k:Nat,k < ws.length->aH aO k=aH ks k - cY (·.j) ts k
theorem eW.perm {ls ws:List S3}{rs ks:List Int}{ts us:List T3}{aL aO:List Int}(h:eW ls ws rs ks ts aL aO)(p:us.Perm ts):eW ls ws rs ks us aL aO:=
 ⟨λt ht=>h.ones t (p.mem_iff.mp ht),λt ht=>h.str t (p.mem_iff.mp ht),((p.map λt:T3=>[t.k,t.j]).nodup_iff).mpr h.nd,h.rl,h.kl,h.r0,h.k0,λk hk=>by rw [jS p];exact h.re k hk,λk hk=>by rw [jS p];exact h.ke k hk⟩
theorem jF {xs:List Int}{y:Int}(h:y∈xs):∃ k,k < xs.length/\y=aH xs k:=by obtain ⟨k,hk,e⟩:=yn h;exact ⟨k,hk,by have:=wY hk;rw [zF hk,e] at this;exact Option.some.inj this⟩
theorem iZ {xs:List Int}{k:Nat}{v:Int}{P:Int->Prop}(h:∀ y∈xs,P y)(hv:P v):∀ y∈xs.set k v,P y:=λy hy=>by
 rcases yE hy with q | q
 ·exact h y q
 ·rw [q];exact hv
def Po (ts:List T3)(k j:Nat):Prop:=∀ t∈ts,t.k < k\/(t.k=k/\t.j < j)
theorem eW.step {ls ws:List S3}{rs ks:List Int}{ts:List T3}{aL aO:List Int}{k j:Nat}{s:Int}{l w:S3}(h:eW ls ws rs ks ts aL aO)(a:Po ts k j)(hl:ls[k]?=some l)(hw:ws[j]?=some w)(st:ia l w=true)(s0:0 < s)(s1:s<=aH aL k)(s2:s<=aH aO j) :
  eW ls ws rs ks (ts++[⟨k,j,s⟩]) (aL.set k (aH aL k - s)) (aO.set j (aH aO j - s)):=by
 have lk:=(zQ.mp hl).1;have lj:=(zQ.mp hw).1;refine ⟨λt ht=>?_,λt ht=>?_,?_,by rw [yI,h.rl],by rw [yI,h.kl],iZ (P:=λy=>0<=y) h.r0 (by omega),iZ (P:=λy=>0<=y) h.k0 (by omega),λm hm=>?_,λm hm=>?_⟩
 ·rcases zV.mp ht with q | q
  ·exact h.ones t q
  ·rw [zE.mp q];exact ⟨⟨by show (0:Int)<=(k:Int);omega,by show (k:Int) < _;omega⟩,⟨by show (0:Int)<=(j:Int);omega,by show (j:Int) < _;omega⟩,s0⟩
 ·rcases zV.mp ht with q | q
  ·exact h.str t q
  ·rw [zE.mp q,ny (l:=l) (w:=w) (by show ls[((k:Int)).toNat]?=_;rw [yA];exact hl) (by show ws[((j:Int)).toNat]?=_;rw [yA];exact hw)];exact st
 ·rw [zB,xL];refine ⟨h.nd,by simp,λx hx y hy e=>?_⟩;obtain ⟨t,ht,rfl⟩:=zX.mp hx;have hy:=zE.mp hy;rw [hy] at e;have e1:t.k=(k:Int):=by have:=congrArg List.head? e;simpa using this
  have e2:t.j=(j:Int):=by have:=congrArg (λl:List Int=>l.getD 1 0) e;simpa using this
  rcases a t ht with q | ⟨_,q⟩
  ·omega
  ·omega
 ·rw [gF];by_cases c:k=m
  ·subst c;rw [iJ (by rw [h.rl];exact lk),if_pos rfl,h.re k hm];show _ - s=_ - (_ + s);omega
  ·rw [eV c,if_neg (by show ¬ (k:Int)=m;omega),h.re m hm];omega
 ·rw [gF];by_cases c:j=m
  ·subst c;rw [iJ (by rw [h.kl];exact lj),if_pos rfl,h.ke j hm];show _ - s=_ - (_ + s);omega
  ·rw [eV c,if_neg (by show ¬ (j:Int)=m;omega),h.ke m hm];omega
theorem sF {xs:List Int}{k:Nat}(h:k < xs.length):xs.set k (aH xs k - 0)=xs:=by
 refine yu λi=>?_;rw [List.getElem?_set];by_cases c:k=i
 ·subst c;rw [if_pos rfl,if_pos h,wY h,Int.sub_zero]
 ·rw [if_neg c]
def Nd:Sp:=λvs H Q _=>∃ p ll lw st lb lr lk ls ws rs ks,vs=[.ref p,.ref ll,.ref lw,.ref st]/\aK H p/\aE H ll ls/\aE H lw ws/\H st=some (.tup [.ref lb,.ref lr,.ref lk]) /\
 (H lr=some (.lst (List.map V.int rs))/\H lk=some (.lst (List.map V.int ks)))/\(lr≠lk/\lr≠p/\lk≠p)/\((ll≠p/\ll≠lr/\ll≠lk)/\lw≠p/\lw≠lr/\lw≠lk) /\
 (rs.length=ls.length/\ks.length=ws.length/\ls.length<=8/\ws.length<=8)/\(∀ x∈rs,(0:Int)<=x/\x<=99)/\(∀ x∈ks,(0:Int)<=x) /\
 ∀ l (ts:List (Addr×T3)) aL aO H',(∀ c u,c≠p->c≠lr->c≠lk->H c=some u->H' c=some u)->aK H' p->H' lr=some (.lst (List.map V.int aL))->H' lk=some (.lst (List.map V.int aO))->H l=none->H' l=some (.lst (ts.map λx=>V.ref x.1))->(∀ x∈ts,H' x.1=some (.tup [.int x.2.k,.int x.2.j,.int x.2.m]))->ts.length<=64 ->
  eW (ls.map (·.2)) (ws.map (·.2)) rs ks (ts.map (·.2)) aL aO->Q (.ref l) H'
structure gQ (aa:List Int) (ls ws:List S3) (ms:List M4) (xs:List R4) (b0 rs ks bs' aL aO:List Int):Prop where
 len:xs.length=ms.length
 ok:∀ x∈xs,x.ok ls.length ws.length
 kept:∀ rest,cV aa ls ws (ms.zip xs++rest) b0=cV aa ls ws rest bs'
 bl:bs'.length=aa.length
 b0:∀ w:Int,0<=aP bs' w
 br:∀ w:Int,0<=w->w < aa.length->aP bs' w<=aP aa w
 rl:aL.length=ls.length
 kl:aO.length=ws.length
 r0:∀ y∈aL,(0:Int)<=y
 k0:∀ y∈aO,(0:Int)<=y
 re:∀ k:Nat,k < ls.length->aH aL k=aH rs k - (xs.map λx=>aH x.bg k).sum
 ke:∀ k:Nat,k < ws.length->aH aO k=aH ks k - (xs.map λx=>aH x.cm k).sum
theorem lW {α β:Type}:∀ {xs:List α}{ys:List β}{us:List α}{vs:List β},xs.length=ys.length->(xs++us).zip (ys++vs)=xs.zip ys++us.zip vs
 | [],[],_,_,_=>rfl
 | x::xs,y::ys,us,vs,h=>by
  rw [zP,zP,yW,yW,lW (Nat.succ.inj h),zP]
theorem gQ.step {aa:List Int}{ls ws:List S3}{ms:List M4}{xs:List R4}{b0 rs ks bs' aL aO Ml Ny kE:List Int}{r:M4}{x:R4}(h:gQ aa ls ws ms xs b0 rs ks bs' aL aO)(o:Mv r ls ws aa bs' aL aO x Ml Ny kE) :
  gQ aa ls ws (ms++[r]) (xs++[x]) b0 rs ks Ml Ny kE:=by
 refine ⟨by rw [zU,zU,h.len];rfl,λy hy=>?_,λrest=>?_,by rw [o.bl,h.bl],o.b0,o.br,o.rl,o.kl,o.r0,o.k0,λk hk=>?_,λk hk=>?_⟩
 ·rcases zV.mp hy with q | q
  ·exact h.ok y q
  ·rw [zE.mp q];exact o.ok
 ·rw [lW h.len.symm,xK,h.kept];show cV aa ls ws ((r,x)::rest) bs'=_;rw [fz,o.win,o.beh,zu];show (((Ml.zip aa).all λp=>decide (p.1<=p.2)) && _)=_;have:((Ml.zip aa).all λp=>decide (p.1<=p.2))=true:=by
   rw [yH];intro p hp;obtain ⟨k,hk⟩:=yV hp;rw [yQ] at hk;have k1:=(zQ.mp hk.1).1;have k2:=(zQ.mp hk.2).1;have e1:aP Ml (k:Int)=p.1:=Option.some.inj (by rw [<-hk.1];unfold aP;rw [yA];exact (wY k1).symm);have e2:aP aa (k:Int)=p.2:=Option.some.inj (by rw [<-hk.2];unfold aP;rw [yA];exact (wY k2).symm);have:=o.br (k:Int) (by omega) (by omega);rw [e1,e2] at this;exact decide_eq_true this
  rw [this,zu]
 ·rw [o.re k hk,h.re k hk,zB,yw];show _=_ - (_ + (aH x.bg k + 0));omega
 ·rw [o.ke k hk,h.ke k hk,zB,yw];show _=_ - (_ + (aH x.cm k + 0));omega
structure iT (aa:List Int) (ms:List M4) (ls ws:List S3) (xs:List R4) (ts:List T3) (kE:List Int):Prop where
 kept:cV aa ls ws (ms.zip xs) (List.replicate aa.length 0)=true
 str:∀ t∈ts,lO ls ws t=true
 ones:∀ t∈ts,T3.ok ls.length ws.length t
 left:∀ k:Nat,k < ls.length->(xs.map λx=>aH x.bg k).sum + cY (·.k) ts k<=aH (ls.map (·.m)) k
 afR:∀ k:Nat,k < ws.length->(xs.map λx=>aH x.cm k).sum + cY (·.j) ts k=aH (ws.map (·.m)) k - aH kE k
 kl:kE.length=ws.length
 k0:∀ y∈kE,(0:Int)<=y
theorem oN {n:Nat}{rows:List (List Int)}{ts:List T3}{f:T3->Int}{k:Nat}(h:k < n):(eE n rows (ts.map λt=>(f t,t.m)))[k]?=some ((rows.map λr=>aH r k).sum + cY f ts k):=by rw [fZ h];congr 2;unfold cY;rw [List.filter_map,zz];rfl
theorem iV {xs:List Int}:∀ {n:Nat}{f:Nat->Int},xs.length=n->(∀ k,k < n->aH xs k=f k)->xs.sum=((List.range n).map f).sum:=by
 intro n f l h;have:xs=(List.range n).map f:=by
  refine yu λi=>?_;by_cases hi:i < n
  ·rw [wY (by omega),h i hi,zD,yo hi];rfl
  ·rw [yF (by omega),yF (by rw [zA,yl];omega)]
 rw [this]
def KA (K:PySem.W.Frag):Sp:=λvs H Q _=>∃ sa hd b ll lw aa tr tm ps ls ws ns,∃ n:Nat,∃ H0,vs=[.ref sa,.ref hd,.ref b,.ref ll,.ref lw,.int n]/\aB K H0 sa (List.map V.int ns)/\ns.length<=63/\H0 hd=none/\ay H0 H/\n < 100/\bJ H b aa tr tm ps/\Good aa.length (ps.map (·.2))/\1<=aa.length/\aa.length<=12/\(∀ y∈aa,(0:Int)<=y)/\aK H hd/\aE H ll ls/\aE H lw ws/\(ll≠hd/\lw≠hd)/\ls.length<=8/\ws.length<=8/\(∀ a∈ls,1<=a.2.m/\a.2.m<=99)/\(∀ a∈ws,1<=a.2.m/\a.2.m<=99) /\
 ∀ t p lr lt xs ts lk kE H',Go hd H H'->H' t=some (.tup [.ref p,.ref lk])->aV H' p lr lt xs ts->gR ps.length ls.length ws.length xs ts->(ts.map λx=>[x.2.k,x.2.j]).Nodup->H' lk=some (.lst (List.map V.int kE))->iT aa (ps.map (·.2)) (ls.map (·.2)) (ws.map (·.2)) (xs.map (·.r)) (ts.map (·.2)) kE->Q (.ref t) H'
structure PF (H:Hp) (hd lb lr lk st:Addr) (bs rs ks:List Int) (H9:Hp):Prop where
 pu:aK H9 hd
 kp:∀ c u,c≠hd->H c=some u->H9 c=some u
 kb:H9 lb=some (.lst (bs.map V.int))
 kr:H9 lr=some (.lst (rs.map V.int))
 kk:H9 lk=some (.lst (ks.map V.int))
 ks:H9 st=some (.tup [.ref lb,.ref lr,.ref lk])
structure PN (H:Hp) (hd lb lr lk:Addr):Prop where
 b:H lb=none
 r:H lr=none
 k:H lk=none
 br:lb≠lr
 bk:lb≠lk
 rk:lr≠lk
 bp:lb≠hd
 rp:lr≠hd
 kp:lk≠hd
theorem PF.same {H:Hp}{hd lb lr lk st:Addr}{bs rs ks:List Int}{H9 H':Hp}(h:PF H hd lb lr lk st bs rs ks H9)(s:ay H9 H'):PF H hd lb lr lk st bs rs ks H':=
 ⟨by obtain ⟨a,b,c,e⟩:=h.pu;exact ⟨a,b,c,s _ _ e⟩,λc u n e=>s _ _ (h.kp c u n e),s _ _ h.kb,s _ _ h.kr,s _ _ h.kk,s _ _ h.ks⟩
theorem PF.str {H:Hp}{hd lb lr lk st:Addr}{bs rs ks JP pZ:List Int}{H6 H7:Hp}(f:PF H hd lb lr lk st bs rs ks H6)(n:PN H hd lb lr lk)(k:∀ c u,c≠hd->c≠lr->c≠lk->H6 c=some u->H7 c=some u)(pu:aK H7 hd)(kr:H7 lr=some (.lst (JP.map V.int)))(kk:H7 lk=some (.lst (pZ.map V.int))):PF H hd lb lr lk st bs JP pZ H7:=
 ⟨pu,λc u m e=>k c u m (xV e n.r) (xV e n.k) (f.kp c u m e),k _ _ n.bp n.br n.bk f.kb,kr,kk,k _ _ (f.pu.tup f.ks) (qe f.ks f.kr (by intro z;cases z)) (qe f.ks f.kk (by intro z;cases z)) f.ks⟩
structure oz (H9:Hp) (la:Addr) (ts:List (Addr×T3)):Prop where
 l:H9 la=some (.lst (ts.map λx=>V.ref x.1))
 e:∀ x∈ts,H9 x.1=some (.tup [.int x.2.k,.int x.2.j,.int x.2.m])
theorem fq {ps:List (Addr×S3)}:(ps.map (·.2)).map (·.m)=ps.map λa=>a.2.m:=by rw [zz];rfl
theorem vK {xs:List Int}(h:∀ x∈xs,0<=x):0<=xs.sum:=by
 induction xs with
 | nil=>exact yp _
 | cons x xs ih=>rw [ye];have:=h x zo;have:=ih λy hy=>h y (zc _ hy);omega
theorem NF {H:Hp}{p la:Addr}{ts:List (Addr×T3)}(pu:aK H p)(k:H la=some (.lst (ts.map λx=>V.ref x.1))):la≠p:=by
 rintro rfl;obtain ⟨a,b,c,e⟩:=pu;rw [k] at e;cases ts with
 | nil=>simp at e
 | cons x ts=>simp at e
theorem tN {aa:List Int}{ms:List M4}{ls ws:List S3}{xs:List R4}{ts:List T3}{b1 r1 k1 r2 k2:List Int}(a:eW ls ws (ls.map (·.m)) (ws.map (·.m)) ts r1 k1)(b:gQ aa ls ws ms xs (List.replicate aa.length 0) r1 k1 b1 r2 k2):iT aa ms ls ws xs ts k2:=
 ⟨by have:=b.kept [];rw [zO] at this;rw [this];rfl,a.str,a.ones,λk hk=>by have:=a.re k hk;have:=b.re k hk;have:=b.r0 _ (qT (show k < r2.length by rw [b.rl];exact hk));omega,λk hk=>by have:=a.ke k hk;have:=b.ke k hk;omega,b.kl,b.k0⟩
theorem Jw {aa:List Int}{ms:List M4}{ls ws:List S3}{xs:List R4}{ts:List T3}{b1 r1 k1 r2 k2:List Int}(b:gQ aa ls ws ms xs (List.replicate aa.length 0) (ls.map (·.m)) (ws.map (·.m)) b1 r1 k1)(a:eW ls ws r1 k1 ts r2 k2):iT aa ms ls ws xs ts k2:=
 ⟨by have:=b.kept [];rw [zO] at this;rw [this];rfl,a.str,a.ones,λk hk=>by have:=a.re k hk;have:=b.re k hk;have:=a.r0 _ (qT (show k < r2.length by rw [a.rl];exact hk));omega,λk hk=>by have:=a.ke k hk;have:=b.ke k hk;omega,a.kl,a.k0⟩
end Sm
namespace L2
open PySem PySem.Spec PyProof.Rows
section
variable {prog:Program}{w:World}{A:Around}{R:Result->Shared->Prop}{s:Shared} {elt t1 i1 t2 i2:Expr} {aeC aeB:List Expr}{scope:Scope}{pos:Pos}{it acc:Value}{env:Env}
abbrev tests (ifs:List Expr)(env:Env):Sem Bool:=forIn ifs true λc r=>if r=true then do let ok <- isTrue c env (eval c env);pure (ForInStep.yield ok) else pure (ForInStep.yield r)
end
section
variable {X:Cx}{ai:List (Addr×Obj)}{σ:St}{H:Hp}{s:Shared}
end
section
variable {K:PySem.W.Frag}{a b:Addr}{xs ys:List V}{n:Nat}{caps:List Nat} {g g2:TG} {tc tc2:TT} {wi2:TI}{te:TE} {σ τ0:St}{H:Hp} {af2:List V}{Qf:Addr->Hp->List V->Prop}{C:St->List V->Hp->Prop}
end
end L2
namespace Sm
open PySem L2
def DT (H:Hp):Nat->V->Prop
 | 0,v=>∃ t,fF H v=some t
 | n + 1,v=>(∃ p xs,v=.ref p/\H p=some (.lst xs)/\∀ x∈xs,DT H n x)\/(∃ p xs,v=.ref p/\H p=some (.tup xs)/\∀ x∈xs,DT H n x)\/∃ t,fF H v=some t/\t ≠ "list" /\ t ≠ "tuple"
theorem DT.ty {H:Hp}{n:Nat}{v:V}(h:DT H n v):∃ t,fF H v=some t:=by
 cases n with
 | zero=>exact h
 | succ n=>
  rcases h with ⟨p,xs,rfl,k,_⟩ | ⟨p,xs,rfl,k,_⟩ | ⟨t,k,_⟩
  ·exact ⟨_,wt k⟩
  ·exact ⟨_,wz k⟩
  ·exact ⟨t,k⟩
theorem DT.same {H H':Hp}(s:ay H H'):∀ {n:Nat}{v:V},DT H n v->DT H' n v
 | 0,_,⟨t,h⟩=>⟨t,qB s h⟩
 | n + 1,_,h=>by
  rcases h with ⟨p,xs,rfl,k,e⟩ | ⟨p,xs,rfl,k,e⟩ | ⟨t,k,e⟩
  ·exact .inl ⟨p,xs,rfl,s _ _ k,λx hx=>DT.same s (e x hx)⟩
  ·exact .inr (.inl ⟨p,xs,rfl,s _ _ k,λx hx=>DT.same s (e x hx)⟩)
  ·exact .inr (.inr ⟨t,qB s k,e⟩)
theorem DT.le {H:Hp}:∀ {n:Nat}{v:V},DT H (n + 1) v->DT H n v
 | 0,_,h=>h.ty
 | n + 1,_,h=>by
  rcases h with ⟨p,xs,rfl,k,e⟩ | ⟨p,xs,rfl,k,e⟩ | ⟨t,k,e⟩
  ·exact .inl ⟨p,xs,rfl,k,λx hx=>DT.le (e x hx)⟩
  ·exact .inr (.inl ⟨p,xs,rfl,k,λx hx=>DT.le (e x hx)⟩)
  ·exact .inr (.inr ⟨t,k,e⟩)
theorem ue {xs:List V}(h:xs.length=3):∃ x y z,xs=[x,y,z]:=by rcases xs with _ | ⟨a,_ | ⟨b,_ | ⟨c,_ | ⟨d,xs⟩⟩⟩⟩ <;> first | exact ⟨_,_,_,rfl⟩ | (simp only [zH,zL] at h;omega)
theorem getD_at {α:Type}{l:List α}{i:Nat}{x d:α}(h:l[i]?=some x):l.getD i d=x:=by rw [zZ,h];rfl
section
variable {n nr k w k' w':Nat}{rs:List (List Int)}{v:Int}
end
section
variable {p lg lt lm a:Addr} {H0 H H':Hp}{as:List Addr}{n nr k w i:Nat}{gs ts:List Bool}{rs:List (List Int)}{v:Int}
end
section
variable {p lg lt lm a:Addr} {H00 H0 H H' H1:Hp}{as:List Addr}{n nr:Nat}{gs ts:List Bool}{rs:List (List Int)}{r:List Int}
end
section
variable {ms:List M4}{ls ws:List S3}{gs ts:List Bool}{rs aL:List (List Int)}{n nr i k w:Nat}{v:Int}
end
section
variable {ms:List M4}{ls ws:List S3}{gs ts:List Bool}{rs aL:List (List Int)}{n nr i k w:Nat}{v:Int}
end
theorem aE.Jx {p l:Addr}{H H':Hp}{ps:List (Addr×S3)}(h:aE H l ps)(g:Go p H H')(hp:aK H p):aE H' l ps:=by
 refine ⟨g.1 _ _ (λe=>?_) h.l,λa ha=>g.aS hp _ _ (h.each a ha)⟩;obtain ⟨x,y,z,k⟩:=hp;rw [<-e,h.l] at k
 match ps,k with
 | [],k=>cases k
 | a::ps,k=>cases k
theorem gI {p l:Addr}{H:Hp}{xs:List V}(hp:aK H p)(h:H l=some (.lst xs))(n:∀ x y z:Int,xs≠[.int x,.int y,.int z]):l≠p:=λe=>by
 obtain ⟨x,y,z,k⟩:=hp;rw [<-e,h] at k;exact n x y z (by injection (Option.some.inj k))
theorem DT.flat {H:Hp}{v:V}{t:String}(h:fF H v=some t)(n1:t ≠ "list")(n2:t ≠ "tuple"):∀ n,DT H n v
 | 0=>⟨t,h⟩
 | _ + 1=>.inr (.inr ⟨t,h,n1,n2⟩)
theorem DT.int {H:Hp}(n:Nat)(b:Int):DT H n (.int b):=DT.flat (t := "int") rfl (by decide) (by decide) n
theorem DT.bF {H:Hp}(n:Nat):DT H n .bF:=DT.flat (t := "NoneType") rfl (by decide) (by decide) n
theorem DT.lst {H:Hp}{n:Nat}{p:Addr}{xs:List V}(h:H p=some (.lst xs))(e:∀ x∈xs,DT H n x):DT H (n + 1) (.ref p):=.inl ⟨p,xs,rfl,h,e⟩
theorem DT.tup {H:Hp}{n:Nat}{p:Addr}{xs:List V}(h:H p=some (.tup xs))(e:∀ x∈xs,DT H n x):DT H (n + 1) (.ref p):=.inr (.inl ⟨p,xs,rfl,h,e⟩)
theorem DT.ints {H:Hp}(n:Nat){r:List Int}:∀ x∈r.map V.int,DT H n x:=λx hx=>by
 obtain ⟨b,_,rfl⟩:=zX.mp hx;exact DT.int n b
theorem DT.three {H:Hp}{n:Nat}{x y z:V}(a:DT H n x)(b:DT H n y)(c:DT H n z):∀ v∈[x,y,z],DT H n v:=λv hv=>by
 simp only [zG,zK,or_false] at hv;rcases hv with rfl | rfl | rfl <;> assumption
theorem DT.two {H:Hp}{n:Nat}{x y:V}(a:DT H n x)(b:DT H n y):∀ v∈[x,y],DT H n v:=λv hv=>by
 simp only [zG,zK,or_false] at hv;rcases hv with rfl | rfl <;> assumption
theorem dB {xs:List V}{lo hi:Option Int}{y:V}(h:y∈aN xs lo hi):y∈xs:=by unfold aN at h;exact List.mem_of_mem_drop (yt h)
section
variable {H:Hp}{c lg lt lm:Addr}{gs ts:List Bool}{ms:List (Addr×List Int)}
theorem mh {n:Nat}{xs:List V}{l1 h1 l2 h2:Option Int}{v:V}(e:∀ x∈xs,DT H n x)(hv:DT H n v):∀ x∈aN xs l1 h1++[v]++aN xs l2 h2,DT H n x:=λx hx=>by
 rcases zV.mp hx with hx | hx
 ·rcases zV.mp hx with hx | hx
  ·exact e x (dB hx)
  ·cases zE.mp hx;exact hv
 ·exact e x (dB hx)
end
theorem Om {p:Addr}{H H':Hp}{v:V}(g:Go p H H')(hp:aK H p)(d:DT H 0 v):DT H' 0 v:=by
 obtain ⟨t,d⟩:=d;cases v with
 | ref a=>
  by_cases e:a=p
  ·subst e;obtain ⟨x,y,z,k⟩:=g.2;exact ⟨_,wt k⟩
  ·cases h:H a with
   | none=>simp only [fF,h] at d;cases d
   | some o=>
    have h2:=g.1 _ _ e h;refine ⟨t,?_⟩;simp only [fF,h] at d;simp only [fF,h2];exact d
 | _=>exact ⟨t,d⟩
theorem PK {H:Hp}{p:Addr}(h:H p=some (.dK [])):fF H (.ref p)=some "dict" := by simp only [fF,h]
end Sm
namespace bM
open PySem PySem.Spec
def JB {K:Type}[DecidableEq K](acc:List (Addr×K))(x:Addr×K):List (Addr×K):=if x.2∈acc.map (·.2) then acc else acc++[x]
def dd {K:Type}[DecidableEq K](xs:List (Addr×K)):List (Addr×K):=xs.foldl JB []
section
variable {K:Type} [DecidableEq K]
theorem vq {xs:List (Addr×K)}{i:Nat}{x:Addr×K}(h:xs[i]?=some x):dd (xs.take (i + 1))=if x.2∈(dd (xs.take i)).map (·.2) then dd (xs.take i) else dd (xs.take i)++[x]:=by rw [List.take_add_one,h];unfold dd;rw [Option.toList_some,List.foldl_append];rfl
theorem vt {xs acc:List (Addr×K)}:(∀ y∈xs.foldl JB acc,y∈acc\/y∈xs)/\(∀ y,y∈acc\/y∈xs->y.2∈(xs.foldl JB acc).map (·.2))/\(xs.foldl JB acc).length<=acc.length + xs.length/\((acc.map (·.2)).Nodup->((xs.foldl JB acc).map (·.2)).Nodup):=by
 induction xs generalizing acc with
 | nil=>exact ⟨λy h=>.inl h,λy h=>h.elim (λh=>xF h) (λh=>nomatch h),zJ _,λh=>h⟩
 | cons x xs ih=>
  rw [xI];by_cases e:x.2∈acc.map (·.2)
  ·rw [show JB acc x=acc from if_pos e];obtain ⟨h1,h2,h3,h4⟩:=ih (acc:=acc);refine ⟨λy hy=>(h1 y hy).imp id (zc _),λy hy=>?_,by rw [zH];omega,h4⟩;rcases hy with hy | hy
   ·exact h2 y (.inl hy)
   ·rcases zG.mp hy with rfl | hy
    ·obtain ⟨z,hz,ez⟩:=zX.mp e;rw [<-ez];exact h2 z (.inl hz)
    ·exact h2 y (.inr hy)
  ·rw [show JB acc x=acc++[x] from if_neg e];obtain ⟨h1,h2,h3,h4⟩:=ih (acc:=acc++[x]);refine ⟨λy hy=>?_,λy hy=>h2 y ?_,by rw [zU,yr] at h3;rw [zH];omega,λnd=>h4 ?_⟩
   ·rcases h1 y hy with h | h
    ·rcases zV.mp h with h | h
     ·exact .inl h
     ·rw [zE.mp h];exact .inr zo
    ·exact .inr (zc _ h)
   ·rcases hy with hy | hy
    ·exact .inl (zV.mpr (.inl hy))
    ·rcases zG.mp hy with rfl | hy
     ·exact .inl (zV.mpr (.inr (zE.mpr rfl)))
     ·exact .inr hy
   ·rw [zB,xL];refine ⟨nd,by simp,λa ha b hb e2=>?_⟩;rw [zI,zg,zE] at hb;rw [<-hb,<- e2] at e;exact e ha
theorem Rp {xs:List (Addr×K)}{y:Addr×K}(h:y∈dd xs):y∈xs:=((vt (xs:=xs) (acc:=[])).1 y h).resolve_left (by intro z;cases z)
theorem Me (xs:List (Addr×K)):(dd xs).length<=xs.length:=by have:=(vt (xs:=xs) (acc:=[])).2.2.1;simpa [dd] using this
end
section
variable {prog:Program}{w:World}{K:Type} [DecidableEq K] [Inhabited K] {knd:HeapKind prog w K}
theorem nI {α β:Type}{f:α->β}{l l':List β}(p:l.Perm l'):∀ xs:List α,l'=xs.map f->∃ ys:List α,ys.Perm xs/\l=ys.map f:=by
 induction p with
 | nil=>intro xs h;cases xs with
  | nil=>exact ⟨[],.nil,rfl⟩
  | cons x xs=>cases h
 | cons b p ih=>
  intro xs h;cases xs with
  | nil=>cases h
  | cons x xs=>
   injection h with h1 h2
   obtain ⟨ys,q,e⟩:=ih xs h2;exact ⟨x::ys,q.cons x,by rw [zI,e,h1]⟩
 | swap a b t=>
  intro xs h;cases xs with
  | nil=>cases h
  | cons x xs=>
   cases xs with
   | nil=>cases h
   | cons y xs=>
    injection h with h1 h2
    injection h2 with h2 h3
    exact ⟨y::x::xs,.swap _ _ _,by rw [zI,zI,h1,h2,h3]⟩
 | trans p q ZI ZH=>
  intro xs h;obtain ⟨ys,q1,e1⟩:=ZH xs h;obtain ⟨zs,q2,e2⟩:=ZI ys e1;exact ⟨zs,q2.trans q1,e2⟩
theorem Holds.SI {h:Heap}{a:Addr}{xs:List (Addr×K)}(H:Holds knd h a xs)(hk:∀ x∈xs,knd.is h x.2 x.1):∃ es ep t ks,Rz knd h a es ep t ks/\es.toList.Perm (xs.map λx=>(knd.hash x.2,Value.ref x.1))/\es.size=xs.length/\(∀ i,i < es.size->ks i∈xs.map (·.2))/\∀ k∈xs.map (·.2),∃ i,i < es.size/\ks i=k:=by
 obtain ⟨es,ep,t,ho,T,pm⟩:=H;have ln:es.size=xs.length:=by have:=pm.length_eq;rw [Array.length_toList,zA] at this;exact this
 obtain ⟨ys,py,ey⟩:=nI pm xs rfl;have ly:ys.length=xs.length:=py.length_eq;refine ⟨es,ep,t,λi=>(ys.getD i (0,default)).2,⟨ho,T,λi hi=>?_⟩,pm,ln,λi hi=>?_,λk ja=>?_⟩
 ·have hy:i < ys.length:=by omega
  have e1:ys[i]?=some ys[i]:=zF hy;refine ⟨ys[i].1,?_,?_⟩
  ·have e2:es.toList[i]?=some (knd.hash ys[i].2,Value.ref ys[i].1):=by rw [ey,zD,e1];rfl
   rw [Array.getElem?_toList,Array.getElem?_eq_getElem hi] at e2;rw [zZ,e1];exact Option.some.inj e2
  ·rw [zZ,e1];exact hk _ (py.mem_iff.mp (yC hy))
 ·have hy:i < ys.length:=by omega
  show (ys.getD i (0,default)).2∈_;rw [zZ,zF hy];exact xF (py.mem_iff.mp (yC hy))
 ·obtain ⟨y,hy,rfl⟩:=zX.mp ja;obtain ⟨i,hi⟩:=yV (py.mem_iff.mpr hy);refine ⟨i,by have:=(zQ.mp hi).1;omega,?_⟩;show (ys.getD i (0,default)).2=_;rw [zZ,hi];rfl
section
variable {A:Around}{R:Result->Shared->Prop}{I:Addr}{fp wr:List Addr}{G:Array GenState->Array GenState->Prop}{n:Nat}{P:Nat->Value->Prop}{St:Nat->Shared->Prop} {h0:Heap}{xs:List (Addr×K)}
theorem TM (W:WalksS prog w A.in1 I fp wr G n P St)(S:Addr)(U4:S ∉ fp)(hr:knd.room A.in1)(cl:∀ B (s':Shared),Calm knd B s')(hb:mV knd)(f0:h0.get? S=none)(f1:∀ b∈wr,h0.get? b=none)(QZ:∀ h h' k b,Kp h h'->knd.is h k b->knd.is h' k b)
  (hn:xs.length=n) (eB:n < 4000) (hx:∀ x∈xs,knd.is h0 x.2 x.1) (hv:∀ i v,P i v->∃ x,xs[i]?=some x/\v=.ref x.1) :
  ∀ (k i:Nat) (s:Shared),n - i=k->i<=n->St i s->Kp h0 s.heap->Holds knd s.heap S (dd (xs.take i)) ->
   (∀ s',Moved (S::wr) G s s'->Holds knd s'.heap S (dd xs)->R (.ok (.ret .none)) s')->codeAny (model prog w) A (.builtin "set.update.loop" ⟨[.ref S,.ref I],[]⟩) R s:=by
 have U3:S ∉ wr:=λh=>U4 (W.sub _ h);have sub:∀ b∈wr,b∈S::wr:=λb hb=>zc _ hb;intro k;induction k with
 | zero=>
  intro i s hk hi lT kp hS hR;obtain rfl:i=n:=by omega
  refine codeAny_builtin PyProof.Rows.F.entry_set_update_loop ?_;rw [Around.under_plainId PyProof.Rows.F.plain_set_update_loop _];show wpAny _ A.in1 (pyNext (.ref I) >>= _) _ _ s;refine wpAny_bind (W.done s _ _ lT λs' hm=>?_);show wpAny _ A.in1 (ret Value.none) _ _ s';rw [<-hn,zd] at hS;exact wpAny_pure (hR s' (hm.mono sub) (hS.move λo e=>hm.heap S o U3 e))
 | succ k ih=>
  intro i s hk hi lT kp hS hR;have lt:i < n:=by omega
  refine codeAny_builtin PyProof.Rows.F.entry_set_update_loop ?_;rw [Around.under_plainId PyProof.Rows.F.plain_set_update_loop _];show wpAny _ A.in1 (pyNext (.ref I) >>= _) _ _ s;refine wpAny_bind (W.item i s _ _ lt lT λv s' hP N9 hm=>?_);obtain ⟨x,Q4,rfl⟩:=hv i v hP;have R6:Kp h0 s'.heap:=λb o e=>hm.heap b o (λz=>by rw [f1 b z] at e;cases e) (kp b o e);have MM:Holds knd s'.heap S (dd (xs.take i)):=hS.move λo e=>hm.heap S o U3 e;have Q0:∀ y∈xs,knd.is s'.heap y.2 y.1:=λy hy=>QZ _ _ _ _ R6 (hx y hy);obtain ⟨es,ep,t,ks,T,pm,ez,mem,QG⟩:=MM.SI λy hy=>Q0 y (yt (Rp hy));have UA:=zC Q4;show wpAny _ A.in1 (holding [Value.ref x.1] (setAdd S (.ref x.1)) >>= _) _ _ s';refine wpAny_bind (wpAny_holding ?_);unfold setAdd;refine wpAny_holding ?_;refine wpAny_bind (knd.pyHash hr (Q0 x UA) ?_);refine add (s:={ s' with toks:=s'.toks + knd.draws x.2 }) hr ⟨T.obj,T.tab,T.keys⟩ (Q0 x UA) (cl _ _) hb (by rw [ez];have:=Me (xs.take i);rw [zR] at this;omega) (λf=>?_) (λh' gO Ol t' nf sb go T' YE=>?_)
  ·obtain ⟨j,hj,e⟩:=f;have m1:=mem j hj;rw [e] at m1;refine wpAny_pure ⟨plainId_quiet PyProof.Rows.F.plain_set_update_loop _,ih (i + 1) _ (by omega) lt (W.frame _ s' _ _ N9 (yj _ _) λb mJ o e=>e) R6 (by rw [vq Q4,if_pos m1];exact MM) λNv LC LN=>?_⟩;exact hR Nv (Moved.trans W.gtrans ((hm.mono sub).then_heap (yj _ _) λb o mJ e=>e) LC) LN
  ·have OX:Kp h0 h':=λb o e=>by rw [sb.2 b (λz=>by rw [z,f0] at e;cases e)];exact R6 b o e
   refine wpAny_pure ⟨plainId_quiet PyProof.Rows.F.plain_set_update_loop _,ih (i + 1) _ (by omega) lt (W.frame _ s' _ _ N9 (yj _ _) λb mJ o e=>?_) OX ⟨gO,Ol,t',go,T',?_⟩ λNv LC LN=>?_⟩
   ·rw [sb.2 b (λz=>U4 (by rw [<-z];exact mJ))];exact e
   ·rw [vq Q4,if_neg (λz=>?_),zB]
    ·exact YE.trans (pm.append_right _)
    ·obtain ⟨j,hj,ej⟩:=QG _ z;exact nf j hj ej
   ·refine hR Nv (Moved.trans W.gtrans ((hm.mono sub).then_heap (yj _ _) λb o mJ e=>?_) LC) LN;rw [sb.2 b (λz=>mJ (by rw [z];exact zo))];exact e
end
section
variable {A:Around}{E:Value->Shared->Prop}{s:Shared}{xs:List (Addr×K)}
theorem MZ {l:Addr}{led:Bool}(hh:A.handled=none)(hl:s.heap.IsList l (xs.map λx=>Value.ref x.1).toArray)(LH:(s.heap.push (bS #[] 0 (.fresh 0 0 led))).IsList l (xs.map λx=>Value.ref x.1).toArray)(lS:l < s.heap.objs.size)
  (hr:∀ B:Around,B.units<=A.units + 8->knd.room B) (cl:∀ B (s':Shared),Calm knd B s') (hb:mV knd) (QZ:∀ h h' k b,Kp h h'->knd.is h k b->knd.is h' k b)
  (eB:xs.length < 4000) (hx:∀ x∈xs,knd.is s.heap x.2 x.1) {R:Result->Shared->Prop} (hR:∀ h' tk,Holds knd h' s.heap.objs.size (dd xs)->Kp s.heap h'->R (.ok (.ret .none)) { s with heap:=h',toks:=tk }) :
  codeAny (model prog w) A.in1.in1 (.builtin "set.update.loop" ⟨[.ref s.heap.objs.size,.ref (s.heap.push (bS #[] 0 (.fresh 0 0 led))).objs.size],[]⟩) R { s with heap:=(s.heap.push (bS #[] 0 (.fresh 0 0 led))).push { cls:=.type "list_iterator", data:=.fields #[.ref l,.int 0 0] } }:=by
 have sz:(s.heap.push (bS #[] 0 (.fresh 0 0 led))).objs.size=s.heap.objs.size + 1:=Heap.size_push _ _;have out:∀ b,s.heap.objs.size<=b->s.heap.get? b=none:=λb hb=>by
  cases e:s.heap.get? b with
  | none=>rfl
  | some o=>exact absurd (Heap.lt_size e) (Nat.not_lt.mpr hb)
 have hS:(s.heap.push (bS #[] 0 (.fresh 0 0 led))).get? s.heap.objs.size=some (bS #[] 0 (.fresh 0 0 led)):=Heap.get?_push_size _ rfl;refine TM (knd:=knd) (h0:=s.heap) (xs:=xs) ((Walks.list (by simp [hh]) _ l (by rw [sz];exact zt (xC lS)) _).toS) s.heap.objs.size (by rw [sz];simp only [zG,zK,or_false,not_or];exact ⟨zt (Nat.lt_succ_self _),yf lS⟩) (hr _ (by show A.units + 1 + 1 + 1<=_;omega)) cl hb (out _ (zJ _)) (λb hb=>out _ (by rw [zE.mp hb,sz];omega)) QZ (by simp) (by simpa using eB) hx (λi v hv=>?_) _ 0 _ rfl (zx _) ⟨⟨_,Heap.get?_push_size _ rfl,rfl,rfl⟩,LH.push _⟩ (λb o e=>Heap.get?_push_of_some _ (Heap.get?_push_of_some _ e)) ⟨#[],0,_,Heap.get?_push_of_some _ hS,⟨.inl rfl,rfl,.nil,rfl,(λ_ z=>nomatch z),(by show 0 * 5 < 7 * 3;decide),λi hi=>absurd hi (yg _)⟩,.nil⟩ λs' hm MM=>?_
 ·have Lx:((xs.map λx=>Value.ref x.1).toArray)[i]?=some v:=hv;rw [List.getElem?_toArray,zD] at Lx;cases e:xs[i]? with
  | none=>rw [e] at Lx;cases Lx
  | some x=>rw [e] at Lx;exact ⟨x,rfl,(Option.some.inj Lx).symm⟩
 ·obtain ⟨h',g',d',tk',YH⟩:=s';have eg:g'=s.gens:=hm.gens;have ed:d'=s.drawn:=hm.drawn;have eo:YH=s.os:=hm.os;subst eg;subst ed;subst eo;refine hR h' tk' MM λb o e=>hm.heap b o (λz=>?_) (Heap.get?_push_of_some _ (Heap.get?_push_of_some _ e));have:=Heap.lt_size e;rw [sz] at z;simp only [zG,zK,or_false] at z;rcases z with rfl | rfl
  ·exact yM _ this
  ·exact yM _ (Nat.lt_of_succ_lt this)
theorem QF {l:Addr}{Q:Value->Shared->Prop}(hh:A.handled=none)(hl:s.heap.IsList l (xs.map λx=>Value.ref x.1).toArray)(hr:∀ B:Around,B.units<=A.units + 8->knd.room B)(cl:∀ B (s':Shared),Calm knd B s')(hb:mV knd)(QZ:∀ h h' k b,Kp h h'->knd.is h k b->knd.is h' k b)
  (eB:xs.length < 4000) (hx:∀ x∈xs,knd.is s.heap x.2 x.1)
  (h:∀ (h':Heap) (tk:Nat),Holds knd h' s.heap.objs.size (dd xs)->Kp s.heap h'->Q (.ref s.heap.objs.size) { s with heap:=h',toks:=tk }) :
  wpAny (model prog w) A (call (.type "set") [.ref l]) Q E s:=by
 obtain ⟨c,tl,aeS⟩:=F.called_set.mro;have acn:=F.called_set.made;have UD:=F.called_set.sub;refine wpAny_call (codeAny_of_tree ?_);show wpAny _ _ (callAny (.type "set") _) _ _ _;refine wpAny_pure ⟨Code.quiet_builtin _ (by decide +kernel),codeAny_builtin F.entry_type_call ?_⟩;rw [Around.under_plain (weight_type_call_type "set" [.ref l] []) rfl];have h1:=F.called_set.notType;have h2:=F.called_set.canCreate;have hct:=F.typeCall_set_1 (.ref l);repeat (any_goals (first | assumption | wp_step))
 refine codeAny_mono (code_set_new_1 (.ref l) (E:=E) (Q₁:=λobj aT=>∃ led:Bool,obj=.ref s.heap.objs.size/\aT={ s with heap:=s.heap.push (bS #[] 0 (.fresh 0 0 led)) }) λled=>⟨led,rfl,rfl⟩) λr aT UG=>?_;cases r with
 | error e=>exact UG
 | ok fl=>
  cases fl with
  | ret obj=>
   obtain ⟨led,rfl,rfl⟩:=UG;generalize nP:bS #[] 0 (.fresh 0 0 led)=ob;have hS:(s.heap.push ob).get? s.heap.objs.size=some ob:=Heap.get?_push_size _ (by rw [<-nP];rfl);have hT:Shared.TypeIs { s with heap:=s.heap.push ob } (.ref s.heap.objs.size) "set" := ⟨_,hS,by rw [<-nP];rfl⟩;have hli:=F.called_set.init.lookup;have hbi:=F.called_set.init.bind (.ref s.heap.objs.size);repeat (any_goals (first | assumption | wp_step))
   refine codeAny_mono (codeAny_call_builtin (R:=wants (λr nv=>r=.none/\∃ h' tk,nv={ s with heap:=h',toks:=tk }/\Holds knd h' s.heap.objs.size (dd xs)/\Kp s.heap h') E) F.called_set.init.plain F.entry_set_init (check_set_init_1 hT ?_)) λYt nv LA=>?_
   ·have LH:(s.heap.push ob).IsList l (xs.map λx=>Value.ref x.1).toArray:=hl.push _;have Wq:=hl;obtain ⟨⟨adR,Tg,abz,Qw⟩,Wq,Wx,nl,hdl⟩:=Wq;simp only at Wx hdl;subst Wx;subst hdl;have lS:l < s.heap.objs.size:=Heap.lt_size Wq;have Z7:(s.heap.push ob).get? l=some { cls:=.type "list", dict:=Tg,data:=.seq (xs.map λx=>Value.ref x.1).toArray nl,slots:=Qw }:=Heap.get?_push_of_some _ Wq;have aeK:=F.sub_list_set;have aeL:=F.sub_list_frozenset;have Wr:(Value.type "list" == Value.type "dict")=false:=by decide
    subst nP;unfold bS at hS hT LH Z7 ⊢;unfold Builtin.«set.__init__» noKeywords Builtin.Frozenset.updateFrom;generalize hPI:pyIter=PI;wp_walk;subst hPI;refine wpAny_pyIter_list LH ?_;refine wpAny_bind (wpAny_runValue ?_);refine MZ hh hl LH lS hr cl hb QZ eB hx λh' tk MM ja=>?_;show wpAny _ _ _ _ _ _;refine wpAny_pure ?_;show wpAny _ _ (ret Value.none) _ _ _;exact wpAny_pure ⟨rfl,h',tk,rfl,MM,ja⟩
   ·cases Yt with
    | error e=>exact LA
    | ok Vc=>
     cases Vc with
     | ret r=>
      obtain ⟨rfl,h',tk,rfl,MM,ja⟩:=LA;repeat (any_goals (first | assumption | wp_step))
      exact h _ _ MM ja
     | _=>exact LA.elim
  | _=>exact UG.elim
end
end
end bM
namespace L2
open PySem PySem.Spec PyProof.Rows bM
section
variable {X:Cx}{ai:List (Addr×Obj)}{σ:St}{H:Hp}{s:Shared}{a:Addr}
def ND (K:PySem.W.Frag)(P:Program)(w:World):List V->Hp->VK->Prop:=λvs H Q=>∃ l xs,vs=[.ref l]/\H l=some (.lst (xs.map λx:Addr×List Int=>V.ref x.1))/\(∀ x∈xs,H x.1=some (.tup (x.2.map V.int)))/\xs.length < 4000/\∀ p,H p=none->Q (.ref p) (upd H p (Nt P w p (dd xs)))
theorem Rq {xs:List (Addr×List Int)}:dd (xs.map λx=>(x.1,x.2.map (Sum.inl:Int->Key)))=(dd xs).map λx=>(x.1,x.2.map Sum.inl):=by
 have inj:∀ {a b:List Int},a.map (Sum.inl:Int->Key)=b.map Sum.inl->a=b:=λ{a b} e=>List.map_inj_right (λx y z=>Sum.inl.inj z) |>.mp e;have key:∀ (xs acc:List (Addr×List Int)),(xs.map λx=>(x.1,x.2.map (Sum.inl:Int->Key))).foldl JB (acc.map λx=>(x.1,x.2.map Sum.inl))=(xs.foldl JB acc).map λx=>(x.1,x.2.map Sum.inl):=by
  intro xs;induction xs with
  | nil=>intro acc;rfl
  | cons x xs ih=>
   intro acc;rw [zI,xI,xI];by_cases e:x.2∈acc.map (·.2)
   ·rw [show JB acc x=acc from if_pos e,show JB (acc.map λx=>(x.1,x.2.map (Sum.inl:Int->Key))) (x.1,x.2.map Sum.inl)=acc.map λx=>(x.1,x.2.map (Sum.inl:Int->Key)) from if_pos (by
     obtain ⟨y,hy,e⟩:=zX.mp e;rw [zz];exact zX.mpr ⟨y,hy,by rw [<-e];rfl⟩)]
    exact ih acc
   ·rw [show JB acc x=acc++[x] from if_neg e,show JB (acc.map λx=>(x.1,x.2.map (Sum.inl:Int->Key))) (x.1,x.2.map Sum.inl)=(acc.map λx=>(x.1,x.2.map (Sum.inl:Int->Key)))++[(x.1,x.2.map Sum.inl)] from if_neg (λz=>e (by
     rw [zz] at z;obtain ⟨y,hy,e⟩:=zX.mp z;exact zX.mpr ⟨y,hy,inj e⟩))]
    have:=ih (acc++[x]);rw [zB] at this;exact this
 exact key xs []
theorem rJ (hc:X.calm=true)(hu:X.A.units + 64 < cLine):cD X (.type "set") (ND X.K X.prog X.w):=by
 intro ai s σ H xs us Q I r h;obtain ⟨l,xs,rfl,hl,hk,eB,q⟩:=h;obtain ⟨u,rfl,ru⟩:=vals1 r;cases ru;obtain ⟨aC,r,pl,_⟩:=I.list (.inl (.inl hl));obtain rfl:=IQ r;refine QF (knd:=tupleKind (cL X.prog X.w)) (xs:=xs.map λx=>(x.1,x.2.map Sum.inl)) (I.ok.hd hc) ?_ (λB hB=>?_) (λ_ _=>Ka) vH (λh h' k b kp hi=>?_) (by simpa using eB) (λx hx=>?_) λh' tk hs kp=>?_
 ·have:=pl.isList;rw [zz];exact this
 ·show B.units < cLine;omega
 ·obtain ⟨o,items,n,ho,Wx,hd,hi⟩:=hi;exact ⟨o,items,n,kp _ _ ho,Wx,hd,hi⟩
 ·obtain ⟨y,hy,rfl⟩:=zX.mp hx;exact QU I.bh (by rw [hk y hy,Lr])
 ·obtain ⟨es,ep,t,ho,T,pm⟩:=hs;refine ⟨.ref s.heap.objs.size,_,I.laid (a:=s.heap.objs.size) (o:=Nt X.prog X.w s.heap.objs.size (dd xs)) (t':=tk) kp (zJ _) ?_,rfl,q _ (I.bh.fresh (zJ _))⟩;rw [Rq,zz] at pm;exact Nr ho T pm
end
end L2
namespace Sm
open PySem L2 bM
def bT (H:Hp):V->Option (List V)
 | .ref p=>match H p with
  | some (.lst xs)=>some xs
  | _=>none
 | _=>none
def cP (H:Hp):V->Option (List V)
 | .ref p=>match H p with
  | some (.tup xs)=>some xs
  | _=>none
 | _=>none
section
variable {H H':Hp}{p:Addr}{v:V}{xs:List V}{t:String}{n:Nat}
theorem d9 (h:H p=some (.lst xs)):bT H (.ref p)=some xs:=by simp only [bT,h]
theorem nj (h:H p=some (.lst xs)):cP H (.ref p)=none:=by simp only [cP,h]
theorem uV (h:H p=some (.tup xs)):bT H (.ref p)=none:=by simp only [bT,h]
theorem eY (h:H p=some (.tup xs)):cP H (.ref p)=some xs:=by simp only [cP,h]
theorem cI (h:bT H v=some xs):∃ p,v=.ref p/\H p=some (.lst xs):=by
 cases v with
 | ref p=>
  simp only [bT] at h;split at h
  ·rename_i k;cases h;exact ⟨p,rfl,k⟩
  ·cases h
 | _=>cases h
theorem cE (h:cP H v=some xs):∃ p,v=.ref p/\H p=some (.tup xs):=by
 cases v with
 | ref p=>
  simp only [cP] at h;split at h
  ·rename_i k;cases h;exact ⟨p,rfl,k⟩
  ·cases h
 | _=>cases h
theorem DT.way (h:DT H (n + 1) v):(∃ p xs,v=.ref p/\H p=some (.lst xs)/\bT H v=some xs/\cP H v=none/\∀ x∈xs,DT H n x)\/(∃ p xs,v=.ref p/\H p=some (.tup xs)/\bT H v=none/\cP H v=some xs/\∀ x∈xs,DT H n x)\/∃ t,fF H v=some t/\p9 t "list" = false/\p9 t "tuple" = false/\bT H v=none/\cP H v=none:=by
 rcases h with ⟨p,xs,rfl,k,e⟩ | ⟨p,xs,rfl,k,e⟩ | ⟨t,k,n1,n2⟩
 ·exact .inl ⟨p,xs,rfl,k,d9 k,nj k,e⟩
 ·exact .inr (.inl ⟨p,xs,rfl,k,uV k,eY k,e⟩)
 ·refine .inr (.inr ⟨t,k,?_,?_,?_,?_⟩)
  ·rcases gY k with rfl | rfl | rfl | rfl | rfl | rfl | rfl <;> first | rfl | exact absurd rfl n1
  ·rcases gY k with rfl | rfl | rfl | rfl | rfl | rfl | rfl <;> first | rfl | exact absurd rfl n2
  ·cases e:bT H v with
   | none=>rfl
   | some xs=>obtain ⟨p,rfl,k2⟩:=cI e;rw [wt k2] at k;exact absurd (Option.some.inj k).symm n1
  ·cases e:cP H v with
   | none=>rfl
   | some xs=>obtain ⟨p,rfl,k2⟩:=cE e;rw [wz k2] at k;exact absurd (Option.some.inj k).symm n2
theorem DT.dM (s:ay H H')(h:DT H (n + 1) v):bT H' v=bT H v:=by
 rcases (h.same s).way with ⟨p,xs,rfl,k,e1,_⟩ | ⟨p,xs,rfl,k,e1,_⟩ | ⟨t,k,_,_,e1,_⟩
 ·rcases h.way with ⟨p,ys,ep,k2,e2,_⟩ | ⟨p,ys,ep,k2,e2,_⟩ | ⟨t,k2,n1,n2,e2,_⟩
  ·cases ep;rw [s _ _ k2] at k;cases k;rw [e1,e2]
  ·cases ep;rw [s _ _ k2] at k;cases k
  ·have:=qB s k2;rw [wt k] at this;cases this;cases n1
 ·rcases h.way with ⟨p,ys,ep,k2,e2,_⟩ | ⟨p,ys,ep,k2,e2,_⟩ | ⟨t,k2,n1,n2,e2,_⟩
  ·cases ep;rw [s _ _ k2] at k;cases k
  ·rw [e1,e2]
  ·rw [e1,e2]
 ·rcases h.way with ⟨p,ys,rfl,k2,e2,_⟩ | ⟨p,ys,ep,k2,e2,_⟩ | ⟨t,k2,n1,n2,e2,_⟩
  ·rw [d9 (s _ _ k2)] at e1;cases e1
  ·rw [e1,e2]
  ·rw [e1,e2]
theorem DT.gZ (s:ay H H')(h:DT H (n + 1) v):cP H' v=cP H v:=by
 rcases h.way with ⟨p,ys,rfl,k2,_,e2,_⟩ | ⟨p,ys,rfl,k2,_,e2,_⟩ | ⟨t,k2,n1,n2,_,e2⟩
 ·rw [e2,nj (s _ _ k2)]
 ·rw [e2,eY (s _ _ k2)]
 ·rw [e2];cases e:cP H' v with
  | none=>rfl
  | some xs=>
   obtain ⟨p,rfl,k3⟩:=cE e;have:=qB s k2;rw [wz k3] at this;cases this;cases n2
end
def posB:V->Bool
 | .int i=>decide (0 < i)
 | _=>false
def aR (H:Hp)(n:Nat)(v:V):Bool:=match bT H v with
 | some xs=>decide (xs.length=n) && xs.all fJ
 | none=>false
def bN (H:Hp)(nl nw:Nat)(v:V):Bool:=match cP H v with
 | some [a,b,c,d]=>(fJ a && fJ b) && (aR H nl c && aR H nw d)
 | _=>false
def cj (H:Hp)(nl nw:Nat)(v:V):Bool:=match cP H v with
 | some [a,b,c]=>(mD 0 ((nl:Int) - 1) a && mD 0 ((nw:Int) - 1) b) && (fJ c && posB c)
 | _=>false
def ck (H:Hp)(nm nl nw:Nat)(v:V):Bool:=match cP H v with
 | some [r,s]=>(match bT H r with | some xs=>decide (xs.length=nm) && xs.all (bN H nl nw) | none=>false) && (match bT H s with | some ys=>ys.all (cj H nl nw) | none=>false)
 | _=>false
def vQ:Sp:=λvs H Q _=>∃ v,∃ n:Nat,vs=[v,.int n]/\DT H 1 v/\n<=900/\∀ H',ay H H'->Q (.bl (aR H n v)) H'
def Nf:Sp:=λvs H Q _=>∃ ll lw ls ws v,vs=[.ref ll,.ref lw,v]/\aE H ll ls/\aE H lw ws/\ls.length<=100/\ws.length<=100/\DT H 2 v/\∀ H',ay H H'->Q (.bl (bN H ls.length ws.length v)) H'
def Nc:Sp:=λvs H Q _=>∃ ll lw ls ws v,vs=[.ref ll,.ref lw,v]/\aE H ll ls/\aE H lw ws/\DT H 1 v/\Q (.bl (cj H ls.length ws.length v)) H
def eK (H:Hp)(v:V):Prop:=∀ r s ys,cP H v=some [r,s]->bT H s=some ys->ys.length<=100
def Nk:Sp:=λvs H Q _=>∃ b ll lw v aa tr tm ps ls ws,vs=[.ref b,.ref ll,.ref lw,v]/\bJ H b aa tr tm ps/\ps.length<=60/\aE H ll ls/\aE H lw ws/\ls.length<=100/\ws.length<=100/\DT H 4 v/\eK H v/\∀ H',ay H H'->Q (.bl (ck H ps.length ls.length ws.length v)) H'
def P5:Sp:=λvs H Q _=>∃ ll lw lt ls ws,∃ ts:List (Addr×T3),vs=[.ref ll,.ref lw,.ref lt]/\aE H ll ls/\aE H lw ws/\H lt=some (.lst (ts.map λx=>V.ref x.1))/\(∀ x∈ts,H x.1=some (.tup [.int x.2.k,.int x.2.j,.int x.2.m]))/\ts.length<=100/\(∀ x∈ts,T3.ok ls.length ws.length x.2)/\∀ H',ay H H'->Q (.bl (decide ((ts.map λx=>[x.2.k,x.2.j]).Nodup) && dj (ls.map (·.2)) (ws.map (·.2)) (ts.map (·.2)))) H'
def bV (aa:List Int)(ms:List M4)(ls ws:List S3)(xs:List R4)(ts:List T3):Option Int:=if (ts.map λx=>[x.k,x.j]).Nodup then bW aa ms ls ws xs ts else none
def Ks:Sp:=λvs H Q _=>∃ b ll lw v aa tr tm ps ls ws,vs=[.ref b,.ref ll,.ref lw,v]/\bJ H b aa tr tm ps/\Good aa.length (ps.map (·.2))/\aa.length<=100/\aE H ll ls/\aE H lw ws/\ls.length<=100/\ws.length<=100/\DT H 4 v/\eK H v /\
 (ck H ps.length ls.length ws.length v=false->∀ H',ay H H'->Q .bF H') /\
 ∀ p lr lt xs ts,v=.ref p->aV H p lr lt xs ts->gR ps.length ls.length ws.length xs ts->∀ H',ay H H'->Q (oV (bV aa (ps.map (·.2)) (ls.map (·.2)) (ws.map (·.2)) (xs.map (·.r)) (ts.map (·.2)))) H'
theorem mC:∀ {xs:List V},xs.all fJ=true->∃ ns:List Int,xs=ns.map V.int/\∀ x∈ns,(0:Int)<=x
 | [],_=>⟨[],rfl,nofun⟩
 | x::xs,h=>by
  rw [yk,zW] at h;obtain ⟨ns,rfl,hn⟩:=mC h.2;cases x with
  | int i=>exact ⟨i::ns,rfl,λy hy=>by
    rcases zG.mp hy with rfl | hy
    ·exact of_decide_eq_true h.1
    ·exact hn y hy⟩
  | _=>cases h.1
theorem iM {H:Hp}{n:Nat}{v:V}(h:aR H n v=true):∃ p,∃ ns:List Int,v=.ref p/\H p=some (.lst (ns.map V.int))/\ns.length=n/\∀ x∈ns,(0:Int)<=x:=by
 unfold aR at h;split at h
 ·rename_i xs e;obtain ⟨p,rfl,k⟩:=cI e;rw [zW,decide_eq_true_eq] at h;obtain ⟨ns,rfl,hn⟩:=mC h.2;exact ⟨p,ns,rfl,k,by rw [<-h.1,zA],hn⟩
 ·cases h
theorem sG {H:Hp}{nl nw:Nat}{v:V}(h:bN H nl nw v=true):∃ x:RA,v=.ref x.a/\RA.At H x/\x.r.ok nl nw:=by
 unfold bN at h;split at h
 ·rename_i a b c d e;obtain ⟨p,rfl,k⟩:=cE e;rw [zW,zW,zW] at h;obtain ⟨⟨ha,hb⟩,hc,hd⟩:=h;obtain ⟨q1,bg,rfl,k1,l1,z1⟩:=iM hc;obtain ⟨q2,cm,rfl,k2,l2,z2⟩:=iM hd;cases a with
  | int i=>
   cases b with
   | int j=>exact ⟨⟨p,q1,q2,⟨i,j,bg,cm⟩⟩,rfl,⟨k,k1,k2⟩,⟨of_decide_eq_true ha,of_decide_eq_true hb,l1,l2,z1,z2⟩⟩
   | _=>cases hb
  | _=>cases ha
 ·cases h
theorem se {H:Hp}{nl nw:Nat}{v:V}(h:cj H nl nw v=true):∃ x:Addr×T3,v=.ref x.1/\H x.1=some (.tup [.int x.2.k,.int x.2.j,.int x.2.m])/\x.2.ok nl nw:=by
 unfold cj at h;split at h
 ·rename_i a b c e;obtain ⟨p,rfl,k⟩:=cE e;rw [zW,zW,zW] at h;obtain ⟨⟨ha,hb⟩,hc,hd⟩:=h;cases a with
  | int i=>
   cases b with
   | int j=>
    cases c with
    | int m=>
     simp only [mD,zW,decide_eq_true_eq] at ha hb;exact ⟨(p,⟨i,j,m⟩),rfl,k,⟨by show 0<=i/\i < _;omega,by show 0<=j/\j < _;omega,of_decide_eq_true hd⟩⟩
    | _=>cases hd
   | _=>cases hb
  | _=>cases ha
 ·cases h
theorem lC {α:Type}{P:V->α->Prop}{f:V->Bool}{g:α->V}(hp:∀ v,f v=true->∃ x,v=g x/\P v x):∀ {xs:List V},xs.all f=true->∃ ys:List α,xs=ys.map g/\∀ y∈ys,P (g y) y
 | [],_=>⟨[],rfl,nofun⟩
 | x::xs,h=>by
  rw [yk,zW] at h;obtain ⟨ys,rfl,hy⟩:=lC hp h.2;obtain ⟨y,rfl,q⟩:=hp x h.1;exact ⟨y::ys,rfl,λz hz=>by
   rcases zG.mp hz with rfl | hz
   ·exact q
   ·exact hy z hz⟩
theorem j8 {H:Hp}{nm nl nw:Nat}{v:V}(h:ck H nm nl nw v=true)(eB:eK H v)(sX:nm<=60)(bD:nl<=100)(bX:nw<=100):∃ p lr lt xs ts,v=.ref p/\aV H p lr lt xs ts/\gR nm nl nw xs ts:=by
 unfold ck at h;split at h
 ·rename_i r s e;rw [zW] at h;obtain ⟨hr,hs⟩:=h;split at hr
  ·rename_i us e1;split at hs
   ·rename_i ys e2;obtain ⟨p,rfl,k⟩:=cE e;have lf:=eB r s ys e e2;obtain ⟨lr,rfl,k1⟩:=cI e1;obtain ⟨lt,rfl,k2⟩:=cI e2;rw [zW,decide_eq_true_eq] at hr;obtain ⟨xs,rfl,hx⟩:=lC (g:=λx:RA=>V.ref x.a) (P:=λv x=>RA.At H x/\x.r.ok nl nw) (λv hv=>sG hv) hr.2;obtain ⟨ts,rfl,ht⟩:=lC (g:=λx:Addr×T3=>V.ref x.1) (P:=λv x=>H x.1=some (.tup [.int x.2.k,.int x.2.j,.int x.2.m])/\x.2.ok nl nw) (λv hv=>se hv) hs;rw [zA] at lf hr;exact ⟨p,lr,lt,xs,ts,rfl,⟨k,k1,k2,λx u0=>(hx x u0).1,λx u0=>(ht x u0).1⟩,⟨hr.1,sX,bD,bX,lf,λx u0=>(hx x u0).2,λx u0=>(ht x u0).2⟩⟩
   ·cases hs
  ·cases hr
 ·cases h
theorem OG {xs:List V}(h:xs.length=2):∃ a b,xs=[a,b]:=by rcases xs with _ | ⟨a,_ | ⟨b,_ | ⟨c,xs⟩⟩⟩ <;> first | exact ⟨_,_,rfl⟩ | (simp only [zH,zL] at h;omega)
theorem LS {xs:List V}(h:xs.length=4):∃ a b c d,xs=[a,b,c,d]:=by rcases xs with _ | ⟨a,_ | ⟨b,_ | ⟨c,_ | ⟨d,_ | ⟨e,xs⟩⟩⟩⟩⟩ <;> first | exact ⟨_,_,_,_,rfl⟩ | (simp only [zH,zL] at h;omega)
theorem jk {H H':Hp}(s:ay H H'){n:Nat}{v:V}(h:DT H 1 v):aR H' n v=aR H n v:=by unfold aR;rw [h.dM s]
theorem jY {H H':Hp}(s:ay H H'){a b:Nat}{v:V}(h:DT H 2 v):bN H' a b v=bN H a b v:=by
 unfold bN;rw [h.gZ s];rcases h.way with ⟨_,_,_,_,_,e,_⟩ | ⟨p,xs,_,_,_,e,ex⟩ | ⟨_,_,_,_,_,e⟩
 ·rw [e]
 ·rw [e];split
  ·rename_i e2;cases e2;rw [jk s (ex _ (by simp)),jk s (ex _ (by simp))]
  ·rfl
 ·rw [e]
theorem jT {H H':Hp}(s:ay H H'){a b:Nat}{v:V}(h:DT H 1 v):cj H' a b v=cj H a b v:=by unfold cj;rw [h.gZ s]
theorem tT {xs:List (Addr×List Int)}{x:Addr×List Int}:(x.2∈(dd xs).map (·.2)->dd (xs++[x])=dd xs)/\(x.2 ∉ (dd xs).map (·.2)->dd (xs++[x])=dd xs++[x]):=by unfold dd;rw [List.foldl_append,xI,List.foldl_nil];exact ⟨λh=>if_pos h,λh=>if_neg h⟩
theorem sV {xs:List (Addr×List Int)}{x:Addr×List Int}:((xs++[x]).map (·.2)).Nodup↔(xs.map (·.2)).Nodup/\x.2 ∉ xs.map (·.2):=by
 rw [zB,xL];constructor
 ·rintro ⟨a,_,c⟩;exact ⟨a,λh=>c _ h _ (zE.mpr rfl) rfl⟩
 ·rintro ⟨a,b⟩;exact ⟨a,by simp,λy hy z hz e=>by rw [zI,zg,zE] at hz;rw [e,hz] at hy;exact b hy⟩
theorem Mf:∀ (n:Nat) (xs:List (Addr×List Int)),xs.length=n->((dd xs).length=xs.length->(xs.map (·.2)).Nodup)/\((xs.map (·.2)).Nodup->dd xs=xs)
 | 0,xs,h=>by rw [List.length_eq_zero_iff.mp h];exact ⟨λ_=>.nil,λ_=>rfl⟩
 | n + 1,xs,h=>by
  rcases List.eq_nil_or_concat xs with rfl | ⟨ys,x,e⟩
  ·cases h
  ·rw [List.concat_eq_append] at e;subst e;rw [zU] at h;have lx:[x].length=1:=rfl;obtain ⟨i1,i2⟩:=Mf n ys (by omega);have le:=Me ys;rw [sV];refine ⟨λhl=>?_,λhn=>?_⟩
   ·rw [zU] at hl;by_cases nm:x.2∈(dd ys).map (·.2)
    ·rw [tT.1 nm] at hl;omega
    ·rw [tT.2 nm,zU] at hl;have nd:=i1 (by omega);rw [i2 nd] at nm;exact ⟨nd,nm⟩
   ·rw [tT.2 (by rw [i2 hn.1];exact hn.2),i2 hn.1]
theorem Vf {xs:List (Addr×List Int)}:decide ((dd xs).length=xs.length)=decide ((xs.map (·.2)).Nodup):=by
 obtain ⟨a,b⟩:=Mf _ xs rfl;by_cases h:(xs.map (·.2)).Nodup
 ·rw [decide_eq_true h,decide_eq_true (by rw [b h])]
 ·rw [decide_eq_false h,decide_eq_false (λz=>h (a z))]
end Sm
namespace Sm
open PySem L2 aY
def flip (a:Nat):Nat:=if a % 2=0 then a + 1 else a - 1
structure Vm where
 h:Nat
 t:Nat
 m:Int
def hd (ts:List Vm)(a:Nat):Nat:=match ts[a / 2]? with
 | some x=>if a % 2=0 then x.t else x.h
 | none=>0
def tl (ts:List Vm)(a:Nat):Nat:=hd ts (flip a)
def at0 (sp:List Int)(a:Nat):Int:=sp[a]?.getD 0
end Sm
namespace L2
open PySem PySem.Spec PyProof.Rows
section
variable {n:Nat}{caps:List Nat}{g:TG}{tc:TT}{te:TE}{σ:St}{H:Hp}{Qf:Addr->Hp->List V->Prop}
theorem rE {lo:Int}{m:Nat}(Pv:Nat->St->List V->Hp->Prop)(h0:Pv 0 (dG n caps σ) [] H)(hn:m<=200000)(hl:∀ i τ acc H,Pv i τ acc H->acc.length<=i)
  (hs:∀ i τ acc H (C:St->List V->Hp->Prop),i < m->Pv i τ acc H->(∀ τ acc H,Pv (i + 1) τ acc H->C τ acc H)->g (.int (lo + i)) τ H fun bu H2=>tc bu H2 λb H3=>if b=true then te bu H3 λy H4=>C bu (acc++[y]) H4 else C bu acc H3)
  (hd:∀ τ acc H,Pv m τ acc H->∀ p,H p=none->Qf p H acc) :
  ∃ W:Nat->Nat->St->List V->Hp->Prop,(∃ m,W 0 m (dG n caps σ) [] H)/\∀ i m' τ acc H,W i m' τ acc H ->
   ((t9 lo m).stop i H/\acc.length<=sizeLine/\∀ p,H p=none->Qf p H acc) \/
   ((t9 lo m).go i H/\acc.length < sizeLine/\∀ x H',(t9 lo m).oA i H x H'->g x τ H' fun bu H2=>tc bu H2 λb H3=>if b=true then te bu H3 λy H4=>∃ Le,Le < m'/\W (i + 1) Le bu (acc++[y]) H4 else ∃ Le,Le < m'/\W (i + 1) Le bu acc H3):=
 Mi (J:=t9 lo m) Pv m h0 hn hl (λi τ acc H hi p=>hi) (fun τ acc H p=>zJ _)
  (λi τ acc H C hi p c x H' y=>by obtain ⟨e1,e2⟩:=y;subst e1;subst e2;exact hs i τ acc _ C hi p c) hd
end
end L2
namespace Sm
open PySem L2 aY
theorem Jc {n:Nat}{l:List Nat}(nd:l.Nodup)(h:∀ x∈l,x < n):l.length<=n:=by
 have:=l7 (xs:=l.map λx:Nat=>(x:Int)) (ys:=(List.range n).map λx:Nat=>(x:Int)) (xD.mpr (nd.imp λh e=>h (Int.ofNat_inj.mp e))) λx hx=>by
  obtain ⟨y,hy,rfl⟩:=zX.mp hx;exact zX.mpr ⟨y,yK.mpr (h y hy),rfl⟩
 rwa [zA,zA,yl] at this
theorem QY {c:Bool}{A B:Prop}(h1:c=true->A)(h0:c=false->B):if c=true then A else B:=by
 cases c
 ·exact h0 rfl
 ·exact h1 rfl
def oX (L:L4)(M:M4):Prop:=L.a < M.t/\L.s≠L.w/\(M.lo=(L.s:Int)\/M.hi=(L.s:Int))/\(M.lo=(L.w:Int)\/M.hi=(L.w:Int))
instance (L:L4) (M:M4):Decidable (oX L M):=by unfold oX;infer_instance
section
variable {aa:List Int}{ms:List M4}{ls:List (Addr×L4)}{d:Pj}{m j:Nat}{s:RS}{M:M4}{L:Addr×L4}{o:Option (Nat×Int)}
end
end Sm
namespace L2
open PySem PySem.Spec PyProof.Rows
end L2
namespace Sm
open PySem L2 aY
def Yb (t:Vm):List V:=[.int (t.h:Int),.int (t.t:Int),.int t.m]
section
variable {H H5 H6:Hp}{l:Addr}{n m:Nat}{rows:List (Addr×Vm)}{p:Addr}
end
def aaP (n s g:Nat):List V:=[.int (n:Int),.int (s:Int),.int (g:Int)]
structure S35 where
 x:Addr
 dx:Addr
 lA:Addr
 lE:Addr
 lS:Addr
 as:List Addr
 n:Nat
 lt:Addr
 rows:List (Addr×Vm)
def S35.aa1 (H:Hp)(s:S35):Prop:=H s.lt=some (.lst (s.rows.map λr=>V.ref r.1))/\(∀ r∈s.rows,H r.1=some (.tup (Yb r.2))/\r.2.h < s.n/\r.2.t < s.n/\0<=r.2.m)/\s.rows.length<=60
structure W35 (M:List Addr) (le l1 l2:Addr) (tt:Nat->Addr) (f:Nat->S35) (ss gg:Nat->Nat) (H:Hp):Prop where
 hle:H le=some (.lst [.ref (tt 0),.ref (tt 1)])
 h1:H l1=some (.lst [.ref (f 0).x,.ref (f 1).x])
 h2:H l2=some (.lst [.ref (f 0).lt,.ref (f 1).lt])
 ht:∀ i,i < 2->H (tt i)=some (.tup (aaP (f i).n (ss i) (gg i)))
 td:∀ i,i < 2->(f i).aa1 H
 ale:le ∉ M
 a1:l1 ∉ M
 a2:l2 ∉ M
 at_:∀ i,i < 2->tt i ∉ M
 alt:∀ i,i < 2->(f i).lt ∉ M/\∀ r∈(f i).rows,r.1 ∉ M
end Sm
namespace Sm
open PySem L2
def SS (n:Nat)(f:Nat->Int):Int:=((List.range n).map f).sum
theorem iS {n:Nat}{f:Nat->Int}:SS (n + 1) f=SS n f + f n:=by unfold SS;rw [List.range_succ,zB,yw];simp
theorem RB {n:Nat}{f g:Nat->Int}:SS n (λk=>f k + g k)=SS n f + SS n g:=by
 induction n with
 | zero=>rfl
 | succ n ih=>rw [iS,iS,iS,ih];omega
theorem Ph {n:Nat}{f g:Nat->Int}(h:∀ k,k < n->f k<=g k):SS n f<=SS n g:=by
 induction n with
 | zero=>exact yp _
 | succ n ih=>
  rw [iS,iS];have:=ih λk hk=>h k (by omega);have:=h n (by omega);omega
theorem Vo {n:Nat}{f g:Nat->Int}(h:∀ k,k < n->f k=g k):SS n f=SS n g:=by
 have a:=Ph (n:=n) (f:=f) (g:=g) λk hk=>by rw [h k hk];exact yp _
 have b:=Ph (n:=n) (f:=g) (g:=f) λk hk=>by rw [h k hk];exact yp _
 omega
section
variable {aa:List Int}{ms:List M4}{ls ws:List S3}{gs ts:List Bool}{rs:List (List Int)}
theorem Tv {r:M4}{bad:S3->Bool}{ss:List S3}{ns:List Int}(h:(ss.zip ns).all (dg r bad)=true){k:Nat}{s:S3}(hs:ss[k]?=some s)(l:ns.length=ss.length)(pos:0 < aH ns k):(s.w=r.lo\/s.w=r.hi)/\bad s=false:=by have hk:=(zQ.mp hs).1;have z:=yH.mp h (s,aH ns k) (zC (cW hs (wY (by omega))));unfold dg at z;rw [decide_eq_true (show aH ns k > 0 from pos),zu,Bool.not_eq_true',Bool.or_eq_false_iff,Bool.not_eq_false',Bool.or_eq_true,decide_eq_true_eq,decide_eq_true_eq] at z;exact z
theorem jR {α:Type}{f g:α->Int}:∀ {xs:List α},(∀ x∈xs,f x<=g x)->(xs.map f).sum<=(xs.map g).sum
 | [],_=>yp _
 | x::xs,h=>by
  rw [zI,ye,zI,ye];have:=h x (zo ..);have:=jR (xs:=xs) λy hy=>h y (zc _ hy);omega
end
theorem dN:∀ {a b:List Int},a.map V.int=b.map V.int->a=b
 | [],[],_=>rfl
 | [],_::_,h=>by cases h
 | _::_,[],h=>by cases h
 | x::a,y::b,h=>by
  injection h with h1 h2
  injection h1 with h1
  rw [h1,dN h2]
def iD (H:Hp)(ms:List Int)(v:V):Bool:=match bT H v with
 | some xs=>decide (xs.length=ms.length) && (xs.zip ms).all λp=>mD 0 p.2 p.1
 | none=>false
def Nl:Sp:=λvs H Q _=>∃ v lm ms,vs=[v,.ref lm]/\H lm=some (.lst (List.map V.int ms))/\DT H 1 v/\ms.length<=900/\∀ H',ay H H'->Q (.bl (iD H ms v)) H'
def P4:Sp:=λvs H Q _=>∃ l n ps ns w,vs=[.int w,.ref l,.ref n]/\aE H l ps/\H n=some (.lst (List.map V.int ns))/\ns.length=ps.length/\ps.length<=100/\∀ H',ay H H'->Q (.int (bE (ps.map (·.2)) ns w)) H'
def sU (ns sZ:List Int):Bool:=decide (ns.length=sZ.length) && (ns.zip sZ).all λp=>decide (0<=p.1) && decide (p.1<=p.2)
theorem f9 {H:Hp}{p:Addr}{ns ms:List Int}(h:H p=some (.lst (ns.map V.int))):iD H ms (.ref p)=sU ns ms:=by
 unfold iD sU;rw [d9 h];show (decide ((ns.map V.int).length=ms.length) && _)=_;rw [zA];congr 1;have:∀ (ns ms:List Int),((ns.map V.int).zip ms).all (λp=>mD 0 p.2 p.1)=(ns.zip ms).all λp=>decide (0<=p.1) && decide (p.1<=p.2):=λns=>by
  induction ns with
  | nil=>intro ms;rfl
  | cons n ns ih=>
   intro ms;cases ms with
   | nil=>rfl
   | cons m ms=>rw [zI,yW,yW,yk,yk,ih];rfl
 exact this ns ms
theorem i8 {H:Hp}{v:V}{ms:List Int}(h:iD H ms v=true):∃ p,∃ ns:List Int,v=.ref p/\H p=some (.lst (ns.map V.int))/\sU ns ms=true:=by
 have h0:=h;unfold iD at h;split at h
 ·rename_i xs e;obtain ⟨p,rfl,k⟩:=cI e;rw [zW,decide_eq_true_eq] at h;have:∀ (xs:List V) (ms:List Int),xs.length=ms.length->(xs.zip ms).all (λp=>mD 0 p.2 p.1)=true->∃ ns:List Int,xs=ns.map V.int:=λxs=>by
   induction xs with
   | nil=>intro ms _ _;exact ⟨[],rfl⟩
   | cons x xs ih=>
    intro ms l h;cases ms with
    | nil=>cases l
    | cons m ms=>
     rw [yW,yk,zW] at h;obtain ⟨ns,rfl⟩:=ih ms (by simpa using l) h.2;cases x with
     | int i=>exact ⟨i::ns,rfl⟩
     | _=>cases h.1
  obtain ⟨ns,rfl⟩:=this xs ms h.1 h.2;rw [f9 k] at h0;exact ⟨p,ns,rfl,k,h0⟩
 ·cases h
theorem uR {ns sZ:List Int}:sU ns sZ=true↔ns.length=sZ.length/\∀ k,k < ns.length->0<=aH ns k/\aH ns k<=aH sZ k:=by
 unfold sU;rw [zW,decide_eq_true_eq,yH];constructor
 ·rintro ⟨l,h⟩;refine ⟨l,λk hk=>?_⟩;have:=h _ (zC (cW (wY hk) (wY (xs:=sZ) (by omega))));rwa [zW,decide_eq_true_eq,decide_eq_true_eq] at this
 ·rintro ⟨l,h⟩;refine ⟨l,λx hx=>?_⟩;obtain ⟨k,hk⟩:=yV hx;obtain ⟨h1,h2⟩:=yQ.mp hk;have kn:=(zQ.mp h1).1;have:=h k kn;rw [wY kn] at h1;rw [wY (by omega)] at h2;rw [zW,decide_eq_true_eq,decide_eq_true_eq,<- Option.some.inj h1,<- Option.some.inj h2];exact this
def fm (r:M4)(bad:S3->Bool)(ss:List S3):List Int:=ss.map λs=>if (decide (s.w=r.lo) || decide (s.w=r.hi)) && !bad s then 99 else 0
theorem iB {r:M4}{bad:S3->Bool}{ss:List S3}:(fm r bad ss).length=ss.length:=zA _
theorem uU {r:M4}{bad:S3->Bool}{ss:List S3}{k:Nat}{s:S3}(h:ss[k]?=some s):aH (fm r bad ss) k=if (decide (s.w=r.lo) || decide (s.w=r.hi)) && !bad s then 99 else 0:=by unfold aH fm;exact getD_at (by rw [zD,h];rfl)
theorem jE {r:M4}{bad:S3->Bool}{ss:List S3}{ns:List Int}(h:sU ns (fm r bad ss)=true):ns.length=ss.length/\(∀ x∈ns,(0:Int)<=x)/\(ss.zip ns).all (dg r bad)=true:=by
 obtain ⟨l,e⟩:=uR.mp h;rw [iB] at l;refine ⟨l,λx hx=>?_,?_⟩
 ·obtain ⟨k,hk,rfl⟩:=jF hx;exact (e k hk).1
 ·rw [yH];intro x hx;obtain ⟨k,hk⟩:=yV hx;obtain ⟨h1,h2⟩:=yQ.mp hk;have kn:=(zQ.mp h2).1;have z:=(e k kn).2;rw [uU h1] at z;rw [wY kn] at h2;unfold dg;rw [<-Option.some.inj h2];cases c1:(decide (x.1.w=r.lo) || decide (x.1.w=r.hi)) with
  | false=>
   rw [c1] at z;have:¬ aH ns k > 0:=by simp at z;omega
   rw [decide_eq_false this];rfl
  | true=>
   cases c2:bad x.1 with
   | true=>
    rw [c1,c2] at z;have:¬ aH ns k > 0:=by simp at z;omega
    rw [decide_eq_false this];rfl
   | false=>simp
theorem uQ {r:M4}{bad:S3->Bool}{ss:List S3}{ns:List Int}(h:sU ns (fm r bad ss)=false)(l:ns.length=ss.length)(p:∀ x∈ns,(0:Int)<=x):(ss.zip ns).all (dg r bad)=false\/∃ k,k < ns.length/\99 < aH ns k:=by
 cases c:(ss.zip ns).all (dg r bad) with
 | false=>exact .inl rfl
 | true=>
  refine .inr (Classical.byContradiction λn=>?_);refine za (h.symm.trans (uR.mpr ⟨by rw [iB];exact l,λk hk=>⟨p _ (qT hk),?_⟩⟩));obtain ⟨s,hs⟩:∃ s,ss[k]?=some s:=⟨_,zF (by omega)⟩;rw [uU hs];by_cases pos:0 < aH ns k
  ·obtain ⟨a,b⟩:=Tv c hs l pos;rw [b];have:(decide (s.w=r.lo) || decide (s.w=r.hi))=true:=by rw [Bool.or_eq_true,decide_eq_true_eq,decide_eq_true_eq];exact a
   rw [this];exact Int.not_lt.mp λz=>n ⟨k,hk,z⟩
  ·split <;> omega
def dU (a b:List Int):List Int:=(List.range a.length).map λk=>aH a k - aH b k
def fP (a b:List Int)(i:Nat):List Int:=(List.range a.length).map λk=>if k < i then aH a k - aH b k else aH a k
theorem fO {a b:List Int}{i:Nat}:(fP a b i).length=a.length:=by unfold fP;rw [zA,yl]
theorem Kn {a b:List Int}:fP a b 0=a:=by
 refine yu λk=>?_;unfold fP;by_cases h:k < a.length
 ·rw [zD,yo h,wY h];rfl
 ·rw [yF (by rw [zA,yl];omega),yF (by omega)]
theorem oW {a b:List Int}:fP a b a.length=dU a b:=by unfold fP dU;refine List.map_congr_left λk hk=>?_;rw [if_pos (yK.mp hk)]
theorem uv {a b:List Int}{i:Nat}(h:i < a.length):(fP a b i)[i]?=some (aH a i):=by unfold fP;rw [zD,yo h];show some (if i < i then _ else aH a i)=_;rw [if_neg (by omega)]
theorem oU {a b:List Int}{i:Nat}(h:i < a.length):(fP a b i).set i (aH a i - aH b i)=fP a b (i + 1):=by
 refine yu λk=>?_;rw [List.getElem?_set,fO];by_cases hk:k < a.length
 ·unfold fP;by_cases e:i=k
  ·subst e;rw [if_pos rfl,if_pos hk,zD,yo hk];show some _=some (if i < i + 1 then _ else _);rw [if_pos (by omega)]
  ·rw [if_neg e,zD,zD,yo hk];show some (if k < i then _ else _)=some (if k < i + 1 then _ else _);by_cases c:k < i
   ·rw [if_pos c,if_pos (by omega)]
   ·rw [if_neg c,if_neg (by omega)]
 ·rw [yF (by rw [fO];omega)];split
  ·omega
  ·rw [yF (by rw [fO];omega)]
def dX (aa:List Int)(r:M4)(ls ws:List S3)(bs rs ks:List Int)(x:R4):Option (List Int×List Int×List Int):=
 if (sU [x.th,x.bk] [r.m,r.m] && decide (x.th + x.bk<=r.m)) && (sU x.bg (fm r (λs=>decide (s.t ≥ r.t)) ls) && sU x.cm (fm r (λs=>decide (s.t < r.t)) ws)) then
  match aM bs r ls ws x with
  | some cs=>if (cs.zip aa).all (λp=>decide (p.1<=p.2)) then some (cs,dU rs x.bg,dU ks x.cm) else none
  | none=>none
 else none
section
variable {aa:List Int}{r:M4}{ls ws:List S3}{bs rs ks cs aL aO:List Int}{x:R4}
theorem uP {a b m:Int}:sU [a,b] [m,m]=true↔(0<=a/\a<=m)/\0<=b/\b<=m:=by unfold sU;simp only [zH,zL,decide_true,zu,yW,List.zip_nil_left,yk,List.all_nil,Bool.and_true,zW,decide_eq_true_eq]
theorem sH (h:dX aa r ls ws bs rs ks x=some (cs,aL,aO)):x.ok ls.length ws.length/\aQ r ls ws x=true/\aM bs r ls ws x=some cs/\(cs.zip aa).all (λp=>decide (p.1<=p.2))=true/\aL=dU rs x.bg/\aO=dU ks x.cm:=by
 unfold dX at h;split at h
 ·rename_i c;rw [zW,zW,zW,decide_eq_true_eq,uP] at c;obtain ⟨⟨⟨⟨a1,a2⟩,b1,b2⟩,c1⟩,c2,c3⟩:=c;obtain ⟨l1,p1,m1⟩:=jE c2;obtain ⟨l2,p2,m2⟩:=jE c3;split at h
  ·rename_i e;split at h
   ·rename_i al;cases h;exact ⟨⟨a1,b1,l1,l2,p1,p2⟩,by unfold aQ;rw [m1,m2,decide_eq_true c1];rfl,e,al,rfl,rfl⟩
   ·cases h
  ·cases h
 ·cases h
theorem sI (ok:x.ok ls.length ws.length)(h:dX aa r ls ws bs rs ks x=none):(aQ r ls ws x && match aM bs r ls ws x with
  | none=>false
  | some cs=>(cs.zip aa).all λp=>decide (p.1<=p.2))=false\/(∃ k,k < ls.length/\99 < aH x.bg k)\/∃ k,k < ws.length/\99 < aH x.cm k:=by
 have w0:aQ r ls ws x=false->(aQ r ls ws x && match aM bs r ls ws x with
  | none=>false
  | some cs=>(cs.zip aa).all λp=>decide (p.1<=p.2))=false:=λe=>by rw [e];rfl
 by_cases c1:x.th + x.bk<=r.m
 rotate_left
 ·exact .inl (w0 (by unfold aQ;rw [decide_eq_false c1,yU]))
 cases c2:sU x.bg (fm r (λs=>decide (s.t ≥ r.t)) ls) with
 | false=>
  rcases uQ c2 ok.bl ok.b0 with e | ⟨k,hk,e⟩
  ·exact .inl (w0 (by unfold aQ;rw [e];rfl))
  ·exact .inr (.inl ⟨k,by rw [<-ok.bl];exact hk,e⟩)
 | true=>
  cases c3:sU x.cm (fm r (λs=>decide (s.t < r.t)) ws) with
  | false=>
   rcases uQ c3 ok.cl ok.c0 with e | ⟨k,hk,e⟩
   ·exact .inl (w0 (by unfold aQ;rw [e,yU];rfl))
   ·exact .inr (.inr ⟨k,by rw [<-ok.cl];exact hk,e⟩)
  | true=>
   left;have c4:sU [x.th,x.bk] [r.m,r.m]=true:=uP.mpr ⟨⟨ok.th,by have:=ok.bk;omega⟩,ok.bk,by have:=ok.th;omega⟩;unfold dX at h;rw [c2,c3,c4,decide_eq_true c1] at h;cases e:aM bs r ls ws x with
   | none=>rw [yU]
   | some cs=>
    rw [e] at h;dsimp only at h ⊢;cases al:(cs.zip aa).all λp=>decide (p.1<=p.2) with
    | false=>rw [yU]
    | true=>rw [al] at h;simp at h
end
theorem kC {H0 H:Hp}{p:Addr}{ns:List Int}(d:DT H0 1 (.ref p))(s:ay H0 H)(h:H p=some (.lst (ns.map V.int))):H0 p=some (.lst (ns.map V.int)):=by have e:=d.dM s;rw [d9 h] at e;obtain ⟨q,e1,k⟩:=cI e.symm;cases e1;exact k
section
variable {r:M4}{ls ws:List S3}{bs cs:List Int}{x:R4}{Ll Lh Wl Wh:Int}
theorem Sv (tu:gq bs r ls ws x 0 cs)(hl:Ll=bE ls x.bg r.lo)(hw:Wl=bE ws x.cm r.lo)(g:0<=x.th - Ll/\x.th - Ll<=aP cs r.lo/\0<=x.bk - Wl):gq bs r ls ws x 1 (cs.set r.lo.toNat (aP cs r.lo - (x.th - Ll) + (x.bk - Wl))):=by have tu:cs=bs:=tu;subst tu hl hw;refine ⟨?_,by congr 1;omega⟩;unfold bC;rw [decide_eq_true g.1,decide_eq_true g.2.1,decide_eq_true g.2.2];rfl
theorem aaX (tu:gq bs r ls ws x 0 cs)(hl:Ll=bE ls x.bg r.lo)(hw:Wl=bE ws x.cm r.lo)(g:¬(0<=x.th - Ll/\x.th - Ll<=aP cs r.lo/\0<=x.bk - Wl)):aM bs r ls ws x=none:=by have tu:cs=bs:=tu;subst tu hl hw;unfold aM;refine if_neg λh=>g ?_;rw [zW] at h;have:=h.1;unfold bC at this;simp only [zW,decide_eq_true_eq] at this;exact ⟨this.1.1,this.1.2,this.2⟩
theorem Su (a1:0<=r.lo)(a2:r.lo < r.hi)(tu:gq bs r ls ws x 1 cs)(hl:Lh=bE ls x.bg r.hi)(hw:Wh=bE ws x.cm r.hi)(g:0<=x.bk - Lh/\x.bk - Lh<=aP cs r.hi/\0<=x.th - Wh):gq bs r ls ws x 2 (cs.set r.hi.toNat (aP cs r.hi - (x.bk - Lh) + (x.th - Wh))):=by
 obtain ⟨t1,e⟩:=tu;have eb:aP cs r.hi=aP bs r.hi:=by rw [e,JH a1 (by omega) (by omega)]
 rw [eb] at g ⊢;subst hl hw;refine ⟨t1,?_,by rw [e];congr 1;omega⟩;unfold bC;rw [decide_eq_true g.1,decide_eq_true g.2.1,decide_eq_true g.2.2];rfl
theorem aaW (a1:0<=r.lo)(a2:r.lo < r.hi)(tu:gq bs r ls ws x 1 cs)(hl:Lh=bE ls x.bg r.hi)(hw:Wh=bE ws x.cm r.hi)(g:¬(0<=x.bk - Lh/\x.bk - Lh<=aP cs r.hi/\0<=x.th - Wh)):aM bs r ls ws x=none:=by
 obtain ⟨t1,e⟩:=tu;have eb:aP cs r.hi=aP bs r.hi:=by rw [e,JH a1 (by omega) (by omega)]
 rw [eb] at g;subst hl hw;unfold aM;refine if_neg λh=>g ?_;rw [zW] at h;have:=h.2;unfold bC at this;simp only [zW,decide_eq_true_eq] at this;exact ⟨this.1.1,this.1.2,this.2⟩
theorem Ss (tu:gq bs r ls ws x 2 cs):aM bs r ls ws x=some cs:=by obtain ⟨t1,t2,e⟩:=tu;unfold aM;rw [t1,t2,e];rfl
end
def dJ (ls ws:List S3)(rs ks:List Int)(t:T3):Option (List Int×List Int):=
 if (decide (0<=t.k) && decide (t.k < ls.length)) && ((decide (0<=t.j) && decide (t.j < ws.length)) && decide (1<=t.m)) && lO ls ws t then some (rs.set t.k.toNat (aH rs t.k.toNat - t.m),ks.set t.j.toNat (aH ks t.j.toNat - t.m)) else none
def mz:V->Bool
 | .int _=>true
 | _=>false
theorem Lq {H:Hp}{v:V}{t:String}(h:fF H v=some t):(t == "int")=mz v:=by
 by_cases e:t = "int"
 ·subst e;obtain ⟨i,rfl⟩:=jx h;rfl
 ·have:mz v=false:=by
   cases v with
   | int i=>cases h;exact (e rfl).elim
   | _=>rfl
  rw [this];simpa using e
theorem tG {v:V}(h:mz v=true):∃ i,v=.int i:=by
 cases v with
 | int i=>exact ⟨i,rfl⟩
 | _=>cases h
structure dR (H0:Hp) (st lb lr lk:Addr) (bs rs ks:List Int) (H:Hp):Prop where
 s:ay H0 H
 st:H st=some (.tup [.ref lb,.ref lr,.ref lk])
 b:H lb=some (.lst (bs.map V.int))
 r:H lr=some (.lst (rs.map V.int))
 k:H lk=some (.lst (ks.map V.int))
 nb:H0 lb=none
 nr:H0 lr=none
 nk:H0 lk=none
 br:lb≠lr
 bk:lb≠lk
 rk:lr≠lk
section
variable {H0 H H':Hp}{st lb lr lk:Addr}{bs rs ks xs:List Int}
theorem dR.same (c:dR H0 st lb lr lk bs rs ks H)(s:ay H H'):dR H0 st lb lr lk bs rs ks H':=⟨c.s.trans s,s _ _ c.st,s _ _ c.b,s _ _ c.r,s _ _ c.k,c.nb,c.nr,c.nk,c.br,c.bk,c.rk⟩
theorem dR.setB (c:dR H0 st lb lr lk bs rs ks H):dR H0 st lb lr lk xs rs ks (upd H lb (.lst (xs.map V.int))):=
 ⟨λb u e=>by rw [xj (xV e c.nb)];exact c.s _ _ e,by rw [xj (qe c.st c.b (by intro z;cases z))];exact c.st,xQ,by rw [xj c.br.symm];exact c.r,by rw [xj c.bk.symm];exact c.k,c.nb,c.nr,c.nk,c.br,c.bk,c.rk⟩
theorem dR.SJ (c:dR H0 st lb lr lk bs rs ks H):dR H0 st lb lr lk bs xs ks (upd H lr (.lst (xs.map V.int))):=
 ⟨λb u e=>by rw [xj (xV e c.nr)];exact c.s _ _ e,by rw [xj (qe c.st c.r (by intro z;cases z))];exact c.st,by rw [xj c.br];exact c.b,xQ,by rw [xj c.rk.symm];exact c.k,c.nb,c.nr,c.nk,c.br,c.bk,c.rk⟩
theorem dR.SK (c:dR H0 st lb lr lk bs rs ks H):dR H0 st lb lr lk bs rs xs (upd H lk (.lst (xs.map V.int))):=
 ⟨λb u e=>by rw [xj (xV e c.nk)];exact c.s _ _ e,by rw [xj (qe c.st c.k (by intro z;cases z))];exact c.st,by rw [xj c.bk];exact c.b,by rw [xj c.rk];exact c.r,xQ,c.nb,c.nr,c.nk,c.br,c.bk,c.rk⟩
end
def Ng:Sp:=λvs H Q _=>∃ tr m ll lw v st lb lr lk aa,∃ r:M4,∃ ls ws bs rs ks H0,vs=[.ref tr,.ref m,.ref ll,.ref lw,v,.ref st]/\dR H0 st lb lr lk bs rs ks H/\H0 tr=some (.tup (List.map V.int aa))/\H0 m=some (.tup [.int r.lo,.int r.hi,.int r.t,.int r.m])/\(0<=r.lo/\r.lo < r.hi/\r.hi < aa.length)/\aa.length<=100/\bs.length=aa.length/\rs.length=ls.length/\ks.length=ws.length/\aE H0 ll ls/\aE H0 lw ws/\ls.length<=100/\ws.length<=100/\DT H0 2 v /\
 ((∀ x:RA,v=.ref x.a->RA.At H0 x->dX aa r (ls.map (·.2)) (ws.map (·.2)) bs rs ks x.r=none)->∀ H',ay H0 H'->Q (.bl false) H') /\
 ∀ (x:RA) cs aL aO,v=.ref x.a->RA.At H0 x->dX aa r (ls.map (·.2)) (ws.map (·.2)) bs rs ks x.r=some (cs,aL,aO)->∀ H',dR H0 st lb lr lk cs aL aO H'->Q (.bl true) H'
def KC:Sp:=λvs H Q _=>∃ ll lw v st lb lr lk ls ws bs rs ks H0,vs=[.ref ll,.ref lw,v,.ref st]/\dR H0 st lb lr lk bs rs ks H/\rs.length=ls.length/\ks.length=ws.length/\aE H0 ll ls/\aE H0 lw ws/\ls.length<=100/\ws.length<=100/\DT H0 1 v /\
 ((∀ t:Addr×T3,v=.ref t.1->H0 t.1=some (.tup [.int t.2.k,.int t.2.j,.int t.2.m])->dJ (ls.map (·.2)) (ws.map (·.2)) rs ks t.2=none)->∀ H',ay H0 H'->Q (.bl false) H') /\
 ∀ (t:Addr×T3) aL aO,v=.ref t.1->H0 t.1=some (.tup [.int t.2.k,.int t.2.j,.int t.2.m])->dJ (ls.map (·.2)) (ws.map (·.2)) rs ks t.2=some (aL,aO)->∀ H',dR H0 st lb lr lk bs aL aO H'->Q (.bl true) H'
section
variable {aa:List Int}{ms:List M4}{ls ws:List S3}{xs:List R4}{ts:List T3}
theorem fM (h:(ts.map λx=>[x.k,x.j]).Nodup->dj ls ws ts=true->cV aa ls ws (ms.zip xs) (List.replicate aa.length 0)=true->dS (eU ls.length xs ts) ls=true->dS (bU ws.length xs ts) ws=true->False):bV aa ms ls ws xs ts=none:=by
 unfold bV;split
 ·rename_i nd;unfold bW;refine if_neg λz=>?_;rw [zW,zW,zW] at z;exact h nd z.1.1 z.1.2 z.2.1 z.2.2
 ·rfl
theorem jw {ns:List Int}{ss:List S3}(h:dS ns ss=true){k:Nat}(l:ns.length=ss.length)(hk:k < ss.length):aH ns k<=aH (ss.map (·.m)) k:=by
 obtain ⟨s,hs⟩:∃ s,ss[k]?=some s:=⟨_,zF hk⟩;have:=yH.mp h _ (zC (cW (wY (xs:=ns) (by omega)) hs));have e:aH (ss.map (·.m)) k=s.m:=by unfold aH;exact getD_at (by rw [zD,hs];rfl)
 rw [e];exact of_decide_eq_true this
theorem nM {n:Nat}{k:Nat}(hk:k < n):aH (eU n xs ts) k=(xs.map λx=>aH x.bg k).sum + cY (·.k) ts k:=by have z:=oN (rows:=xs.map (·.bg)) (ts:=ts) (f:=(·.k)) hk;unfold aH eU;rw [getD_at z,zz];rfl
theorem jI {n:Nat}{k:Nat}(hk:k < n):aH (bU n xs ts) k=(xs.map λx=>aH x.cm k).sum + cY (·.j) ts k:=by have z:=oN (rows:=xs.map (·.cm)) (ts:=ts) (f:=(·.j)) hk;unfold aH bU;rw [getD_at z,zz];rfl
theorem ur {f:R4->Int}{xs:List R4}{x:R4}(h:x∈xs)(p:∀ y∈xs,0<=f y):f x<=(xs.map f).sum:=by
 induction xs with
 | nil=>cases h
 | cons y ys ih=>
  rw [zI,ye];have h0:=jR (xs:=ys) (f:=λ_=>0) (g:=f) λz hz=>p z (zc _ hz);have h1:(ys.map λ_=>(0:Int)).sum=0:=by
   clear ih h h0 p;induction ys with
   | nil=>rfl
   | cons a ys ih=>rw [zI,ye,ih];rfl
  rcases zG.mp h with rfl | h
  ·omega
  ·have:=ih h λz hz=>p z (zc _ hz);have:=p y (zo ..);omega
theorem l6 {f:T3->Int}{us:List T3}{k:Nat}(h:∀ t∈us,0 < t.m):0<=cY f us k:=by
 unfold cY;have:∀ l:List T3,(∀ t∈l,0 < t.m)->0<=(l.map (·.m)).sum:=λl=>by
  induction l with
  | nil=>intro _;exact yp _
  | cons t l ih=>intro q;rw [zI,ye];have:=q t zo;have:=ih λu hu=>q u (zc _ hu);omega
 exact this _ λt ht=>h t (List.mem_filter.mp ht).1
def fW (aa:List Int)(ls ws:List S3)(zs:List (M4×R4))(bs:List Int):Prop:=∀ rest,cV aa ls ws (zs++rest) (List.replicate aa.length 0)=cV aa ls ws rest bs
theorem fW.nil:fW aa ls ws [] (List.replicate aa.length 0):=λ_=>rfl
theorem fW.snoc {zs:List (M4×R4)}{bs cs:List Int}{r:M4}{x:R4}(h:fW aa ls ws zs bs)(w:aQ r ls ws x=true)(b:aM bs r ls ws x=some cs)(al:(cs.zip aa).all (λp=>decide (p.1<=p.2))=true):fW aa ls ws (zs++[(r,x)]) cs:=λrest=>by
 rw [xK,h,List.singleton_append,fz,w,b];dsimp only;rw [al];rfl
theorem fW.bad {zs rest:List (M4×R4)}{bs:List Int}{r:M4}{x:R4}(h:fW aa ls ws zs bs) (w:(aQ r ls ws x && match aM bs r ls ws x with
  | none=>false
  | some cs=>(cs.zip aa).all λp=>decide (p.1<=p.2))=false):cV aa ls ws (zs++(r,x)::rest) (List.replicate aa.length 0)=false:=by
 rw [h,fz];cases e:aQ r ls ws x with
 | false=>rfl
 | true=>
  rw [e,zu] at w;cases b:aM bs r ls ws x with
  | none=>rfl
  | some cs=>rw [b] at w;dsimp only at w ⊢;rw [w];rfl
structure b9 (ss:List S3) (f:R4->List Int) (g:T3->Int) (xs:List R4) (ts:List T3) (rs:List Int):Prop where
 l:rs.length=ss.length
 e:∀ k,k < ss.length->aH rs k=aH (ss.map (·.m)) k - (xs.map λx=>aH (f x) k).sum - cY g ts k
theorem b9.row {ss:List S3}{f:R4->List Int}{g:T3->Int}{xs:List R4}{rs:List Int}(h:b9 ss f g xs [] rs)(x:R4):b9 ss f g (xs++[x]) [] (dU rs (f x)):=by
 have ll:(dU rs (f x)).length=ss.length:=by unfold dU;rw [zA,yl,h.l]
 refine ⟨ll,λk hk=>?_⟩;have e:aH (dU rs (f x)) k=aH rs k - aH (f x) k:=by
  unfold dU;unfold aH;exact getD_at (by rw [zD,yo (by rw [h.l];exact hk)];rfl)
 rw [e,h.e k hk,zB,yw];show _=_ - (_ + (aH (f x) k + 0)) - _;omega
theorem b9.one {ss:List S3}{f:R4->List Int}{g:T3->Int}{xs:List R4}{ts:List T3}{rs:List Int}(h:b9 ss f g xs ts rs)(t:T3)(t0:0<=g t)(t1:g t < ss.length):b9 ss f g xs (ts++[t]) (rs.set (g t).toNat (aH rs (g t).toNat - t.m)):=by
 refine ⟨by rw [yI,h.l],λk hk=>?_⟩;rw [gF];by_cases e:(g t).toNat=k
 ·subst e;rw [iJ (by rw [h.l];exact hk),h.e _ hk,if_pos (by omega)];omega
 ·rw [eV e,h.e k hk,if_neg (by omega)];omega
theorem oK {rs ks:List Int}(lx:xs.length=ms.length)(ok:∀ x∈xs,x.ok ls.length ws.length){bs:List Int}(pre:fW aa ls ws (ms.zip xs) bs)(hr:b9 ls (·.bg) (·.k) xs ts rs)(hk:b9 ws (·.cm) (·.j) xs ts ks)(str:∀ t∈ts,lO ls ws t=true)(nd:(ts.map λx=>[x.k,x.j]).Nodup) :
  bV aa ms ls ws xs ts=if (∀ x∈rs,0<=x)/\∀ x∈ks,0<=x then some ((ws.map (·.m)).sum - ks.sum) else none:=by
 have kp:cV aa ls ws (ms.zip xs) (List.replicate aa.length 0)=true:=by
  have:=pre [];rw [zO] at this;rw [this];rfl
 have sb:dj ls ws ts=true:=by unfold dj;rw [yH];exact str
 have ul:(∀ x∈rs,0<=x)↔dS (eU ls.length xs ts) ls=true:=by
  constructor
  ·intro h;unfold dS;rw [yH];intro p hp;obtain ⟨k,ja⟩:=yV hp;obtain ⟨h1,h2⟩:=yQ.mp ja;have kl:=(zQ.mp h2).1;have e1:p.1=aH (eU ls.length xs ts) k:=by unfold aH;exact (getD_at h1).symm
   have e2:aH (ls.map (·.m)) k=p.2.m:=by unfold aH;exact getD_at (by rw [zD,h2];rfl)
   have:=h _ (qT (xs:=rs) (k:=k) (by rw [hr.l];exact kl));rw [hr.e k kl] at this;rw [decide_eq_true_eq,e1,nM kl,<- e2];omega
  ·intro h x hx;obtain ⟨k,ja,rfl⟩:=jF hx;rw [hr.l] at ja;have:=jw h (by unfold eU;exact qR) ja;rw [nM ja] at this;rw [hr.e k ja];omega
 have uc:(∀ x∈ks,0<=x)↔dS (bU ws.length xs ts) ws=true:=by
  constructor
  ·intro h;unfold dS;rw [yH];intro p hp;obtain ⟨k,ja⟩:=yV hp;obtain ⟨h1,h2⟩:=yQ.mp ja;have kl:=(zQ.mp h2).1;have e1:p.1=aH (bU ws.length xs ts) k:=by unfold aH;exact (getD_at h1).symm
   have e2:aH (ws.map (·.m)) k=p.2.m:=by unfold aH;exact getD_at (by rw [zD,h2];rfl)
   have:=h _ (qT (xs:=ks) (k:=k) (by rw [hk.l];exact kl));rw [hk.e k kl] at this;rw [decide_eq_true_eq,e1,jI kl,<- e2];omega
  ·intro h x hx;obtain ⟨k,ja,rfl⟩:=jF hx;rw [hk.l] at ja;have:=jw h (by unfold bU;exact qR) ja;rw [jI ja] at this;rw [hk.e k ja];omega
 have ev:(bU ws.length xs ts).sum=(ws.map (·.m)).sum - ks.sum:=by
  have s1:(bU ws.length xs ts).sum=SS ws.length (aH (bU ws.length xs ts)):=iV (by unfold bU;exact qR) λ_ _=>rfl;have s2:(ws.map (·.m)).sum=SS ws.length (aH (ws.map (·.m))):=iV (zA _) λ_ _=>rfl;have s3:ks.sum=SS ws.length (aH ks):=iV hk.l λ_ _=>rfl;have s4:SS ws.length (aH (ws.map (·.m)))=SS ws.length (λk=>aH (bU ws.length xs ts) k + aH ks k):=Vo λk ja=>by rw [hk.e k ja,jI ja];omega
  rw [RB] at s4;omega
 unfold bV bW;rw [if_pos nd,sb,kp,ev];by_cases h1:∀ x∈rs,0<=x
 ·by_cases h2:∀ x∈ks,0<=x
  ·rw [ul.mp h1,uc.mp h2];exact Eq.trans (if_pos rfl) (if_pos ⟨h1,h2⟩).symm
  ·rw [show dS (bU ws.length xs ts) ws=false from Bool.eq_false_iff.mpr λz=>h2 (uc.mpr z)];exact Eq.trans (if_neg (by simp)) (if_neg (λz=>h2 z.2)).symm
 ·rw [show dS (eU ls.length xs ts) ls=false from Bool.eq_false_iff.mpr λz=>h1 (ul.mpr z)];exact Eq.trans (if_neg (by simp)) (if_neg (λz=>h1 z.1)).symm
theorem vY (Y5:∀ s∈ls,s.m<=99)(w99:∀ s∈ws,s.m<=99)(ok:∀ x∈xs,x.ok ls.length ws.length)(tp:∀ t∈ts,0 < t.m){zs rest:List (M4×R4)}{bs rs ks:List Int}{r:M4}{x:R4}(e:ms.zip xs=zs++(r,x)::rest)(pre:fW aa ls ws zs bs)(h:dX aa r ls ws bs rs ks x=none):bV aa ms ls ws xs ts=none:=by
 have mx:x∈xs:=(List.of_mem_zip (show (r,x)∈ms.zip xs by rw [e];exact zV.mpr (.inr (zo ..)))).2;refine fM λnd sb kp ul uc=>?_;have g0:∀ {ns:List Int},(∀ y∈ns,0<=y)->∀ k,0<=aH ns k:=λ{ns} p k=>by
  by_cases h:k < ns.length
  ·exact p _ (qT h)
  ·unfold aH;rw [zZ,yF (by omega)];exact yp _
 have m9:∀ {ss:List S3}{k:Nat},(∀ s∈ss,s.m<=99)->k < ss.length->aH (ss.map (·.m)) k<=99:=λ{ss k} h hk=>by
  obtain ⟨s,hs,e⟩:=zX.mp (qT (xs:=ss.map (·.m)) (k:=k) (by rw [zA];exact hk));rw [<-e];exact h s hs
 rcases sI (ok x mx) h with z | ⟨k,hk,z⟩ | ⟨k,hk,z⟩
 ·rw [e,pre.bad z] at kp;cases kp
 ·have a:=jw ul (by unfold eU;exact qR) hk;rw [nM hk] at a;have b:=ur (f:=λx=>aH x.bg k) mx λy hy=>g0 (ok y hy).b0 k;have d:=l6 (f:=(·.k)) (k:=k) tp;have:=m9 Y5 hk;omega
 ·have a:=jw uc (by unfold bU;exact qR) hk;rw [jI hk] at a;have b:=ur (f:=λx=>aH x.cm k) mx λy hy=>g0 (ok y hy).c0 k;have d:=l6 (f:=(·.j)) (k:=k) tp;have:=m9 w99 hk;omega
theorem sS {rs ks:List Int}{t:T3}(mt:t∈ts)(ok:t.ok ls.length ws.length)(h:dJ ls ws rs ks t=none):bV aa ms ls ws xs ts=none:=by refine fM λnd sb _ _ _=>?_;have z:=yH.mp sb t mt;unfold dJ at h;have:=ok.m;rw [decide_eq_true ok.k.1,decide_eq_true ok.k.2,decide_eq_true ok.j.1,decide_eq_true ok.j.2,decide_eq_true (show 1<=t.m by omega),z] at h;simp at h
end
theorem pR {ls ws:List S3}{rs ks aL aO:List Int}{t:T3}(h:dJ ls ws rs ks t=some (aL,aO)):t.ok ls.length ws.length/\lO ls ws t=true/\aL=rs.set t.k.toNat (aH rs t.k.toNat - t.m)/\aO=ks.set t.j.toNat (aH ks t.j.toNat - t.m):=by
 unfold dJ at h;split at h
 ·rename_i c;simp only [zW,decide_eq_true_eq] at c;cases h;exact ⟨⟨c.1.1,c.1.2.1,by omega⟩,c.2,rfl,rfl⟩
 ·cases h
theorem RA.At.uniq {H:Hp}{x y:RA}(hx:RA.At H x)(hy:RA.At H y)(e:x.a=y.a):x.r=y.r:=by
 have a:=hx.a;rw [e,hy.a] at a;injection (Option.some.inj a) with a
 injection a with a1 a
 injection a with a2 a
 injection a with a3 a
 injection a with a4 a
 have b:=hx.b;rw [<-V.ref.inj a3,hy.b] at b;have c:=hx.c;rw [<-V.ref.inj a4,hy.c] at c;have b':=dN (show y.r.bg.map V.int=x.r.bg.map V.int by injection (Option.some.inj b));have c':=dN (show y.r.cm.map V.int=x.r.cm.map V.int by injection (Option.some.inj c));cases u0:x.r;cases ZO:y.r;rw [u0,ZO] at a1 a2 b' c';dsimp only at a1 a2 b' c';rw [V.int.inj a1,V.int.inj a2,b',c']
theorem dW {H:Hp}:∀ {xs ys:List RA},(xs.map λx=>V.ref x.a)=ys.map (λx=>V.ref x.a)->(∀ x∈xs,RA.At H x)->(∀ x∈ys,RA.At H x)->xs.map (·.r)=ys.map (·.r)
 | [],[],_,_,_=>rfl
 | [],_::_,h,_,_=>by cases h
 | _::_,[],h,_,_=>by cases h
 | x::xs,y::ys,h,hx,hy=>by
  injection h with h1 h2
  rw [zI,zI,(hx x (zo ..)).uniq (hy y (zo ..)) (V.ref.inj h1),dW h2 (λz hz=>hx z (zc _ hz)) λz hz=>hy z (zc _ hz)]
theorem cT {H:Hp}:∀ {xs ys:List (Addr×T3)},(xs.map λx=>V.ref x.1)=ys.map (λx=>V.ref x.1)->(∀ x∈xs,H x.1=some (.tup [.int x.2.k,.int x.2.j,.int x.2.m]))->(∀ x∈ys,H x.1=some (.tup [.int x.2.k,.int x.2.j,.int x.2.m]))->xs.map (·.2)=ys.map (·.2)
 | [],[],_,_,_=>rfl
 | [],_::_,h,_,_=>by cases h
 | _::_,[],h,_,_=>by cases h
 | x::xs,y::ys,h,hx,hy=>by
  injection h with h1 h2
  have a:=hx x (zo ..);rw [V.ref.inj h1,hy y (zo ..)] at a;injection (Option.some.inj a) with a
  injection a with a1 a
  injection a with a2 a
  injection a with a3 a
  have e:x.2=y.2:=by
   cases u0:x.2;cases ZO:y.2;rw [u0,ZO] at a1 a2 a3;dsimp only at a1 a2 a3;rw [V.int.inj a1,V.int.inj a2,V.int.inj a3]
  rw [zI,zI,e,cT h2 (λz hz=>hx z (zc _ hz)) λz hz=>hy z (zc _ hz)]
theorem jL {α β:Type}:∀ {xs:List α}{ys:List β}{i:Nat},(xs.zip ys).take i=(xs.take i).zip (ys.take i)
 | _,_,0=>by simp
 | [],_,i + 1=>by simp
 | _::_,[],i + 1=>by simp
 | x::xs,y::ys,i + 1=>by rw [yW,List.take_succ_cons,List.take_succ_cons,List.take_succ_cons,yW,jL]
theorem oH {α β:Type}{xs:List α}{ys:List β}{i:Nat}{x:α}{y:β}(hx:xs[i]?=some x)(hy:ys[i]?=some y):xs.zip ys=(xs.take i).zip (ys.take i)++(x,y)::(xs.zip ys).drop (i + 1):=by have h:=cW hx hy;rw [<-jL,<- vm h,List.take_append_drop]
theorem rY {α β:Type}{xs:List α}{ys:List β}{i:Nat}{x:α}{y:β}(hx:xs[i]?=some x)(l:ys.length=i)(li:i < xs.length):(xs.take (i + 1)).zip (ys++[y])=(xs.take i).zip ys++[(x,y)]:=by rw [xv hx,List.zip_append (by rw [zR];omega)];rfl
theorem Tf {ls ws:List (Addr×S3)}{x:R4}(h:x.ok ls.length ws.length):x.ok (ls.map (·.2)).length (ws.map (·.2)).length:=by rw [zA,zA];exact h
def Ku:Sp:=λvs H Q _=>∃ b ll lw v aa tr tm ps ls ws,vs=[.ref b,.ref ll,.ref lw,v]/\bJ H b aa tr tm ps/\Good aa.length (ps.map (·.2))/\aa.length<=100/\aE H ll ls/\aE H lw ws/\ls.length<=100/\ws.length<=100/\(∀ a∈ls,a.2.m<=99)/\(∀ a∈ws,a.2.m<=99)/\DT H 4 v/\eK H v /\
 (ck H ps.length ls.length ws.length v=false->∀ H',ay H H'->Q .bF H') /\
 ∀ p lr lt xs ts,v=.ref p->aV H p lr lt xs ts->gR ps.length ls.length ws.length xs ts->∀ H',ay H H'->Q (oV (bV aa (ps.map (·.2)) (ls.map (·.2)) (ws.map (·.2)) (xs.map (·.r)) (ts.map (·.2)))) H'
def cz (H H':Hp)(v:V):Prop:=(∃ t,(∀ Vy:Hp,fF Vy v=some t)/\t ≠ "list" /\ t ≠ "tuple")\/∃ q,v=.ref q/\H q=none/\((∃ x:Int,H' q=some (.lst [.int x]))\/H' q=some (.dK []))
section
variable {H H' Vy:Hp}{v:V}{p l:Addr}
theorem cz.flat {t:String}(h:∀ Vy:Hp,fF Vy v=some t)(n1:t ≠ "list" := by decide)(n2:t ≠ "tuple" := by decide):cz H H' v:=.inl ⟨t,h,n1,n2⟩
theorem cz.put {o:HO}(d:cz H H' v)(hl:H l≠none):cz H (upd H' l o) v:=by
 rcases d with d | ⟨q,e,f,d⟩
 ·exact .inl d
 ·have ne:q≠l:=λz=>hl (z ▸ f);exact .inr ⟨q,e,f,d.imp (λ⟨x,k⟩=>⟨x,by rw [xj ne];exact k⟩) λk=>by rw [xj ne];exact k⟩
theorem cz.dt (d:cz H H' v):∀ n,DT H' n v:=λn=>by
 rcases d with ⟨t,h,n1,n2⟩ | ⟨q,rfl,_,⟨x,k⟩ | k⟩
 ·exact DT.flat (h H') n1 n2 n
 ·cases n with
  | zero=>exact ⟨_,wt k⟩
  | succ n=>exact DT.lst k λy hy=>by cases zE.mp hy;exact DT.int n x
 ·exact DT.flat (t := "dict") (PK k) (by decide) (by decide) n
end
theorem DT.go {p:Addr}{H H':Hp}(g:Go p H H')(hp:aK H p):∀ {n:Nat}{v:V},DT H n v->DT H' n v
 | 0,_,h=>Om g hp h
 | n + 1,v,h=>by
  rcases h with ⟨q,xs,rfl,k,e⟩ | ⟨q,xs,rfl,k,e⟩ | ⟨t,k,n1,n2⟩
  ·by_cases e1:q=p
   ·subst e1;obtain ⟨a,b,c,k'⟩:=g.2;exact DT.lst k' (DT.three (DT.int n a) (DT.int n b) (DT.int n c))
   ·exact DT.lst (g.1 _ _ e1 k) λx hx=>DT.go g hp (e x hx)
  ·exact DT.tup (g.aS hp _ _ k) λx hx=>DT.go g hp (e x hx)
  ·refine .inr (.inr ⟨t,?_,n1,n2⟩);cases v with
   | ref a=>
    by_cases e1:a=p
    ·subst e1;obtain ⟨_,_,_,k'⟩:=hp;rw [wt k'] at k;cases k;exact (n1 rfl).elim
    ·cases h:H a with
     | none=>simp only [fF,h] at k;cases k
     | some o=>
      have h2:=g.1 _ _ e1 h;simp only [fF,h] at k;simp only [fF,h2];exact k
   | _=>exact k
theorem Uo {c:Bool}{T2 A:Prop}{t2:TS}{D:Ends}{σ:St}{H:Hp}(Pre:St->Hp->Prop)(k:∀ σ H,Pre σ H->t2 D σ H)(h1:c=true->(∀ σ H,Pre σ H->t2 D σ H)->T2)(h2:c=false->Pre σ H):if c=true then T2 else (if false=true then A else t2 D σ H):=by
 cases c with
 | true=>exact h1 rfl k
 | false=>exact k _ _ (h2 rfl)
theorem Ul {c:Bool}{A:Prop}{t2:TS}{D:Ends}{σ:St}{H:Hp}(Pre:St->Hp->Prop)(k:∀ σ H,Pre σ H->t2 D σ H)(h1:c=true->(∀ σ H,Pre σ H->t2 D σ H)->A)(h2:c=false->Pre σ H):if c=true then A else t2 D σ H:=by
 cases c with
 | true=>exact h1 rfl k
 | false=>exact k _ _ (h2 rfl)
theorem cF {H:Hp}{xs:List RA}(h:∀ x∈xs,RA.At H x):∀ u∈xs.map (λa=>V.ref a.a),DT H 2 u:=λu hu=>by
 obtain ⟨x,hx,rfl⟩:=zX.mp hu;refine DT.tup (h x hx).a λu hu=>?_;simp only [zG,zK,or_false] at hu;rcases hu with rfl | rfl | rfl | rfl
 ·exact DT.int 1 _
 ·exact DT.int 1 _
 ·exact DT.lst (h x hx).b (DT.ints 0)
 ·exact DT.lst (h x hx).c (DT.ints 0)
def vP:Sp:=λvs H Q _=>∃ p x,vs=[.ref p,.int x]/\aK H p/\∀ v H',Go p H H'->cz H H' v->Q v H'
def Nm:Sp:=λvs H Q _=>∃ p lr,∃ xs:List RA,vs=[.ref p,.ref lr]/\aK H p/\H lr=some (.lst (xs.map λx=>V.ref x.a))/\(∀ x∈xs,RA.At H x/\x.b≠p/\x.c≠p)/\1<=xs.length/\xs.length<=100/\(∀ x∈xs,x.r.bg.length<=100/\x.r.cm.length<=100)/\∀ v H',Go p H H'->DT H' 3 v->Q v H'
theorem aV.Rl {p pl lr lt:Addr}{H H':Hp}{xs:List RA}{ts:List (Addr×T3)}(h:aV H pl lr lt xs ts)(g:Go p H H')(hp:aK H p)(hn:∀ x∈xs,x.b≠p/\x.c≠p):aV H' pl lr lt xs ts:=by
 refine ⟨g.aS hp _ _ h.p,g.1 _ _ (gI hp h.lr λx y z e=>?_) h.lr,g.1 _ _ (gI hp h.ls λx y z e=>?_) h.ls,λx hx=>⟨g.aS hp _ _ (h.rows x hx).a,g.1 _ _ (hn x hx).1 (h.rows x hx).b,g.1 _ _ (hn x hx).2 (h.rows x hx).c⟩,λx hx=>g.aS hp _ _ (h.ones x hx)⟩
 ·rcases xs with _ | ⟨w,_⟩ <;> cases e
 ·rcases ts with _ | ⟨w,_⟩ <;> cases e
theorem qY {H:Hp}{ts:List (Addr×T3)}(h:∀ x∈ts,H x.1=some (.tup [.int x.2.k,.int x.2.j,.int x.2.m])):∀ u∈ts.map (λx=>V.ref x.1),DT H 2 u:=λu hu=>by
 obtain ⟨x,hx,rfl⟩:=zX.mp hu;exact DT.tup (h x hx) (DT.three (DT.int 1 _) (DT.int 1 _) (DT.int 1 _))
theorem jM {H:Hp}{k n:Nat}:∀ x∈(List.replicate k [V.int 0]).flatten,DT H n x:=λx hx=>by
 obtain ⟨l,hl,hx⟩:=List.mem_flatten.mp hx;rw [List.eq_of_mem_replicate hl] at hx;cases zE.mp hx;exact DT.int n 0
theorem JC (xs:List V):(aN xs none (some 1)).length<=1:=by unfold aN;rw [zR,yx];have e:HT.bY xs.length xs.length (some 1)=min 1 xs.length:=HT.uC xs.length xs.length 1;rw [e];omega
def rA (H:Hp)(v:V):Prop:=∀ ys,bT H v=some ys->ys.length<=100
theorem rA.lst {H:Hp}{p:Addr}{xs:List V}(h:H p=some (.lst xs))(l:xs.length<=100):rA H (.ref p):=λys e=>by
 rw [d9 h] at e;cases e;exact l
theorem rA.tup {H:Hp}{p:Addr}{xs:List V}(h:H p=some (.tup xs)):rA H (.ref p):=λys e=>by
 rw [uV h] at e;cases e
theorem eK.two {H:Hp}{p:Addr}{r s:V}(h:H p=some (.tup [r,s]))(f:rA H s):eK H (.ref p):=λr' s' ys e1 e2=>by
 rw [eY h] at e1;cases e1;exact f _ e2
theorem eK.one {H:Hp}{p:Addr}{r:V}(h:H p=some (.tup [r])):eK H (.ref p):=λr' s' ys e1 e2=>by
 rw [eY h] at e1;cases e1
theorem eK.lst {H:Hp}{p:Addr}{xs:List V}(h:H p=some (.lst xs)):eK H (.ref p):=λr' s' ys e1 e2=>by
 rw [nj h] at e1;cases e1
theorem eK.flat {H:Hp}{v:V}(n:∀ p,v≠.ref p):eK H v:=λr' s' ys e1 e2=>by
 obtain ⟨p,e,_⟩:=cE e1;exact (n p e).elim
theorem fc {Q:V->Hp->Prop}{p:Addr}{H H':Hp}{r s:V}(q:∀ v H',Go p H H'->DT H' 4 v->eK H' v->Q v H')(g:Go p H H')(dr:DT H' 3 r)(ds:DT H' 3 s)(f:rA H' s):∀ t,H' t=none->Q (.ref t) (upd H' t (.tup [r,s])):=λt ht=>by
 have sn:=xT (o:=HO.tup [r,s]) ht;exact q _ _ (g.same sn) (DT.tup xQ (DT.two (dr.same sn) (ds.same sn))) (.two xQ λys e=>f ys (by rw [<-ds.dM sn];exact e))
def sf:Sp:=λvs H Q _=>∃ p pl ll lw lr lt,∃ ls ws:List V,∃ xs:List RA,∃ ts:List (Addr×T3),vs=[.ref p,.ref pl,.ref ll,.ref lw]/\aK H p/\(H ll=some (.lst ls)/\ll≠p/\ls.length<=100)/\(H lw=some (.lst ws)/\lw≠p/\ws.length<=100)/\aV H pl lr lt xs ts/\(∀ x∈xs,x.b≠p/\x.c≠p)/\xs.length<=60/\ts.length<=64/\(∀ x∈xs,x.r.bg.length<=100/\x.r.cm.length<=100)/\∀ v H',Go p H H'->DT H' 4 v->eK H' v->Q v H'
theorem lD {f g:V->Bool}:∀ {xs:List V},(∀ x∈xs,f x=g x)->xs.all f=xs.all g
 | [],_=>rfl
 | x::xs,h=>by rw [yk,yk,h x (zo ..),lD λy hy=>h y (zc _ hy)]
section
variable {H H':Hp}{nm nl nw:Nat}{v:V}
theorem j9 (s:ay H H')(h:DT H 4 v):ck H' nm nl nw v=ck H nm nl nw v:=by
 unfold ck;rw [h.gZ s];rcases h.way with ⟨_,_,_,_,_,e,_⟩ | ⟨p,xs,_,_,_,e,ex⟩ | ⟨_,_,_,_,_,e⟩
 ·rw [e]
 ·rw [e];split
  ·rename_i r t e2;cases e2;have dr:=ex r (by simp);have dt:=ex t (by simp);rw [dr.dM s,dt.dM s];congr 1
   ·rcases dr.way with ⟨_,us,_,_,e3,_,eu⟩ | ⟨_,_,_,_,e3,_,_⟩ | ⟨_,_,_,_,e3,_⟩
    ·rw [e3];dsimp only;rw [lD λu hu=>jY s (eu u hu)]
    ·rw [e3]
    ·rw [e3]
   ·rcases dt.way with ⟨_,us,_,_,e3,_,eu⟩ | ⟨_,_,_,_,e3,_,_⟩ | ⟨_,_,_,_,e3,_⟩
    ·rw [e3];dsimp only;rw [lD λu hu=>jT s (eu u hu).le]
    ·rw [e3]
    ·rw [e3]
  ·rfl
 ·rw [e]
theorem eK.same (s:ay H H')(h:DT H 4 v)(f:eK H v):eK H' v:=λr t ys e1 e2=>by
 rw [h.gZ s] at e1;rcases h.way with ⟨_,_,_,_,_,e,_⟩ | ⟨p,xs,_,_,_,e,ex⟩ | ⟨_,_,_,_,_,e⟩
 ·rw [e] at e1;cases e1
 ·have e0:=e1;rw [e] at e1;cases e1;rw [(ex t (by simp)).dM s] at e2;exact f r t ys e0 e2
 ·rw [e] at e1;cases e1
theorem jm {q:Addr}{ns:List Int}{n:Nat}(h:H q=some (.lst (ns.map V.int)))(l:ns.length=n)(z:∀ x∈ns,(0:Int)<=x):aR H n (.ref q)=true:=by unfold aR;rw [d9 h];dsimp only;rw [zA,decide_eq_true l,zu,ym];exact yH.mpr λx hx=>decide_eq_true (z x hx)
theorem pI {p lr lt:Addr}{xs:List RA}{ts:List (Addr×T3)}(k:aV H p lr lt xs ts)(o:gR nm nl nw xs ts):ck H nm nl nw (.ref p)=true:=by
 unfold ck;rw [eY k.p];dsimp only;rw [d9 k.lr,d9 k.ls];dsimp only;rw [zA,decide_eq_true o.n,ym,ym,zu,zW];refine ⟨yH.mpr λx hx=>?_,yH.mpr λx hx=>?_⟩
 ·have a:=k.rows x hx;have b:=o.rows x hx;show bN H nl nw (.ref x.a)=true;unfold bN;rw [eY a.a];dsimp only;rw [jm a.b b.bl b.b0,jm a.c b.cl b.c0];simp only [fJ,decide_eq_true b.th,decide_eq_true b.bk,Bool.and_self]
 ·have a:=k.ones x hx;have b:=o.ones x hx;have b1:=b.k;have b2:=b.j;have b3:=b.m;show cj H nl nw (.ref x.1)=true;unfold cj;rw [eY a];dsimp only;simp only [mD,fJ,posB,zW,decide_eq_true_eq];omega
theorem aV.PB {p lr lt JR lt':Addr}{xs gU:List RA}{ts lZ:List (Addr×T3)}(h:aV H p lr lt xs ts)(h':aV H p JR lt' gU lZ):xs.map (·.r)=gU.map (·.r)/\ts.map (·.2)=lZ.map (·.2):=by
 have e:=h.p;rw [h'.p] at e;cases e;have e1:=h.lr;rw [h'.lr] at e1;have e2:=h.ls;rw [h'.ls] at e2;injection (Option.some.inj e1) with e1
 injection (Option.some.inj e2) with e2
 exact ⟨dW e1.symm h.rows h'.rows,cT e2.symm h.ones h'.ones⟩
end
theorem sR {ts:List (Addr×T3)}{nl nw:Nat}(nd:(ts.map λx=>[x.2.k,x.2.j]).Nodup)(ok:∀ x∈ts,T3.ok nl nw x.2)(l8:nl<=8)(w8:nw<=8):ts.length<=64:=by
 have h:=Jc (n:=64) (l:=ts.map λx=>x.2.k.toNat * 8 + x.2.j.toNat) ?_ ?_
 ·rwa [zA] at h
 ·unfold List.Nodup at nd ⊢;rw [xD] at nd ⊢;refine nd.imp_of_mem λ{a c} ha hc n e=>n ?_;have a1:=(ok a ha).k;have a2:=(ok a ha).j;have c1:=(ok c hc).k;have c2:=(ok c hc).j;have e1:a.2.k=c.2.k:=by omega
  have e2:a.2.j=c.2.j:=by omega
  rw [e1,e2]
 ·intro v hv;obtain ⟨x,hx,rfl⟩:=zX.mp hv;have a1:=(ok x hx).k;have a2:=(ok x hx).j;show x.2.k.toNat * 8 + x.2.j.toNat < 64;omega
def vS:Sp:=λvs H Q _=>∃ b ll lw v aa tr tm ps ls ws,vs=[.ref b,.ref ll,.ref lw,v]/\bJ H b aa tr tm ps/\Good aa.length (ps.map (·.2))/\aa.length<=100/\aE H ll ls/\aE H lw ws/\ls.length<=100/\ws.length<=100/\(∀ a∈ls,a.2.m<=99)/\(∀ a∈ws,a.2.m<=99)/\DT H 4 v/\eK H v/\∀ H',ay H H'->Q (.bl true) H'
end Sm
namespace L2
open PySem
set_option genInjectivity false
set_option genSizeOf false
structure Bk (X:Cx) (b:List Stmt) where
 t:TS
 ps:oE X b t
theorem bP {X:Cx}{b:List Stmt}{R:TS->Prop}(h:let Y:=X;∃ t,oE Y b t/\R t):∃ t,oE X b t/\R t:=h
theorem Bk.bl {X:Cx}{a:Stmt}{rest:List Stmt}(B:Bk X (a::rest)):rQ X (a::rest) B.t:=Mm B.ps
abbrev IV:=Nat->St->Hp->Prop
abbrev IC:=Nat->St->List V->Hp->Prop
def stP:Stmt:=.Pass ⟨0,0,0,0⟩
def nb (l:List Stmt)(i:Nat):List Stmt:=match l.getD i stP with
 | .If _ a _ _=>a
 | .For _ _ a _ _=>a
 | .While _ a _ _=>a
 | _=>[]
def ne (l:List Stmt)(i:Nat):List Stmt:=match l.getD i stP with
 | .If _ _ a _=>a
 | _=>[]
end L2
namespace Sm
open PySem L2
theorem bf:1002<=sizeLine:=by rw [sizeLine_eq];decide
end Sm


namespace L2
open PySem PySem.Spec PyProof.Rows
theorem bw {N P:List Str}{sc:Scope}(a:sc.kind=.function:=by rfl)(b:sc.isCoroutine=false:=by rfl)(c:sc.isGenerator=false:=by rfl)(d:N.Nodup:=by decide +kernel)(e:N.take P.length=P:=by rfl)(f:∀ x∈P,sc.names.lookup x=some .local∨sc.names.lookup x=some .cell:=by decide +kernel)(g:∀ y∈sc.names,y.2≠.free:=by decide +kernel):aF N P sc:=⟨a,b,c,d,e,f,g⟩
theorem b8 {o:List Str}{c:List Nat}{N:List Str}{s p:Scope}(k:p.kind=.function:=by rfl)(a:∀ y∈p.names,y.2≠.cell:=by decide +kernel)(l:∀ y∈p.names,y.2=.local->p.names.lookup y.1=some .local:=by decide +kernel)(f:∀ y∈p.names,y.2=.free->s.names.lookup y.1=some .cell∨s.names.lookup y.1=some .free:=by decide +kernel)(g:∀ i∈c,i < N.length∧p.names.lookup ((N[i]?).getD Str.empty)=some .free:=by decide +kernel):aD o c N s p:=⟨k,a,l,f,g⟩
end L2
namespace Sm
open PySem L2
def top (i:Nat):Stmt:=PySem.Challenge.pw_satchelmeet_k37_whole_plans_looked_at.main.body.getD i (.Pass ⟨0,0,0,0⟩)
abbrev qZ:Stmt:=top 19
abbrev qk:Stmt:=top 20
abbrev Dy:Stmt:=top 21
abbrev qa:Stmt:=top 22
abbrev qm:Stmt:=top 23
abbrev xy:Stmt:=top 24
abbrev CO:Stmt:=top 25
abbrev qD:Stmt:=top 26
abbrev Dx:Stmt:=top 27
abbrev EE:Stmt:=top 1
abbrev D3:Stmt:=top 2
abbrev EF:Stmt:=top 3
abbrev CY:Stmt:=top 4
abbrev qN:Stmt:=top 8
abbrev wu:Stmt:=top 9
abbrev wk:Stmt:=top 7
abbrev C9:Stmt:=top 11
abbrev wg:Stmt:=top 10
abbrev wM:Stmt:=top 13
abbrev C7:Stmt:=top 15
abbrev ww:Stmt:=top 14
abbrev wX:Stmt:=top 12
abbrev D2:Stmt:=top 16
abbrev qb:Stmt:=top 17
abbrev wj:Stmt:=top 6
abbrev wn:Stmt:=top 28
abbrev qE:Stmt:=top 29
abbrev qW:Stmt:=top 30
abbrev wC:Stmt:=top 31
abbrev wI:Stmt:=top 32
abbrev wo:Stmt:=top 33
abbrev qg:Stmt:=top 34
abbrev Eg:Stmt:=top 35
abbrev xt:Stmt:=top 36
abbrev wU:Stmt:=top 37
abbrev wH:Stmt:=top 38
abbrev qd:Stmt:=top 39
abbrev wB:Stmt:=top 40
abbrev xz:Stmt:=top 41
abbrev qr:Stmt:=top 42
abbrev Dr:Stmt:=top 43
set_option genInjectivity false
set_option genSizeOf false
structure Ad where
 Bb:Addr
 BY:FuncData
 Bm:Addr
 Ck:FuncData
 BI:Addr
 CJ:FuncData
 Ba:Addr
 BX:FuncData
 Bn:Addr
 Cl:FuncData
 Av:Addr
 AV:FuncData
 Br:Addr
 Cp:FuncData
 Bl:Addr
 Cj:FuncData
 A8:Addr
 BV:FuncData
 BF:Addr
 CF:FuncData
 Bj:Addr
 Ci:FuncData
 BG:Addr
 CG:FuncData
 AY:Addr
 BT:FuncData
 AA:Addr
 Bh:FuncData
 Ag:Addr
 Ap:FuncData
 Aq:Addr
 AR:FuncData
 AI:Addr
 BB:FuncData
 Aj:Addr
 AB:FuncData
 Af:Addr
 Ao:FuncData
 Bi:Addr
 Ch:FuncData
 AJ:Addr
 BC:FuncData
 Ar:Addr
 AS:FuncData
 CP:Addr
 Dv:FuncData
 Ak:Addr
 AM:FuncData
 AX:Addr
 BS:FuncData
 Bo:Addr
 Cm:FuncData
 A9:Addr
 BW:FuncData
 Bq:Addr
 Co:FuncData
 BH:Addr
 CI:FuncData
 As:Addr
 AT:FuncData
 Bp:Addr
 Cn:FuncData
 AL:Addr
 BE:FuncData
 Cq:Addr
 CZ:FuncData
 Au:Addr
 AU:FuncData
 Am:Addr
 AO:FuncData
 AZ:Addr
 BU:FuncData
 Al:Addr
 AN:FuncData
 Aw:Addr
 AW:FuncData
 AK:Addr
 BD:FuncData
 Bc:Addr
 BZ:FuncData
 Fa:Addr
 GU:FuncData
structure Tx (K:PySem.W.Frag) (mg:Str->Option Value) (a:Ad):Prop where
 Bz:bq K "_law_purse" "_law_purse" qZ a.Bb a.BY
 Ct:Binds K a.BY ["_law_script", "_law_k"] []
 Cr:mg "_law_purse" = some (.ref a.Bb)
 Cs:zY K (.ref a.Bb)=true
 BM:bq K "_law_take" "_law_take" qk a.Bm a.Ck
 Ae:Binds K a.Ck ["_law_purse_here", "_law_many"] []
 Ab:mg "_law_take" = some (.ref a.Bm)
 Ac:zY K (.ref a.Bm)=true
 Cg:bq K "_law_far" "_law_far" Dy a.BI a.CJ
 Ix:Binds K a.CJ ["_law_purse_here"] []
 Iq:mg "_law_far" = some (.ref a.BI)
 Iv:zY K (.ref a.BI)=true
 By:bq K "_law_rooms" "_law_rooms" qa a.Ba a.BX
 Hl:Binds K a.BX ["_law_purse_here", "_law_walkers"] []
 He:mg "_law_rooms" = some (.ref a.Ba)
 Hi:zY K (.ref a.Ba)=true
 BN:bq K "_law_step" "_law_step" qm a.Bn a.Cl
 HR:Binds K a.Cl ["_law_purse_here"] []
 HE:mg "_law_step" = some (.ref a.Bn)
 HK:zY K (.ref a.Bn)=true
 AG:bq K "_law_meetings" "_law_meetings" xy a.Av a.AV
 F1:Binds K a.AV ["_law_purse_here", "_law_walkers", "_law_most"] []
 FQ:mg "_law_meetings" = some (.ref a.Av)
 FV:zY K (.ref a.Av)=true
 BR:bq K "_law_book" "_law_book" CO a.Br a.Cp
 HV:Binds K a.Cp ["_law_purse_here", "_law_most_walkers", "_law_most_meetings"] []
 HH:mg "_law_book" = some (.ref a.Br)
 HN:zY K (.ref a.Br)=true
 BL:bq K "_law_time" "_law_time" qD a.Bl a.Cj
 HQ:Binds K a.Cj ["_law_purse_here", "_law_book_here", "_law_later"] []
 HD:mg "_law_time" = some (.ref a.Bl)
 HJ:zY K (.ref a.Bl)=true
 Bw:bq K "_law_whole" "_law_whole" Dx a.A8 a.BV
 DG:Binds K a.BV ["_law_thing"] []
 DA:mg "_law_whole" = some (.ref a.A8)
 DD:zY K (.ref a.A8)=true
 Cd:bq K "is_whole" "is_whole" EE a.BF a.CF
 Gr:Binds K a.CF ["thing"] []
 Gm:mg "is_whole" = some (.ref a.BF)
 Gp:zY K (.ref a.BF)=true
 BK:bq K "is_within" "is_within" D3 a.Bj a.Ci
 FG:Binds K a.Ci ["thing", "least", "most"] []
 FA:mg "is_within" = some (.ref a.Bj)
 FD:zY K (.ref a.Bj)=true
 Ce:bq K "is_count" "is_count" EF a.BG a.CG
 DF:Binds K a.CG ["thing"] []
 Dz:mg "is_count" = some (.ref a.BG)
 DC:zY K (.ref a.BG)=true
 Bu:bq K "are_counts" "are_counts" CY a.AY a.BT
 E7:Binds K a.BT ["thing", "size"] []
 EZ:mg "are_counts" = some (.ref a.AY)
 E4:zY K (.ref a.AY)=true
 AQ:bq K "has_row_form" "has_row_form" qN a.AA a.Bh
 Gs:Binds K a.Bh ["loads", "wants", "thing"] []
 Gn:mg "has_row_form" = some (.ref a.AA)
 Gq:zY K (.ref a.AA)=true
 Ai:bq K "has_straight_form" "has_straight_form" wu a.Ag a.Ap
 Er:Binds K a.Ap ["loads", "wants", "thing"] []
 Em:mg "has_straight_form" = some (.ref a.Ag)
 Eo:zY K (.ref a.Ag)=true
 AC:bq K "has_plan_form" "has_plan_form" wk a.Aq a.AR
 FX:Binds K a.AR ["book", "loads", "wants", "thing"] []
 FN:mg "has_plan_form" = some (.ref a.Aq)
 FS:zY K (.ref a.Aq)=true
 Bd:bq K "is_straight" "is_straight" C9 a.AI a.BB
 GJ:Binds K a.BB ["load", "want"] []
 GD:mg "is_straight" = some (.ref a.AI)
 GG:zY K (.ref a.AI)=true
 An:bq K "may_be_straight" "may_be_straight" wg a.Aj a.AB
 E6:Binds K a.AB ["loads", "wants", "straight"] []
 EY:mg "may_be_straight" = some (.ref a.Aj)
 E3:zY K (.ref a.Aj)=true
 Ah:bq K "is_within_meeting" "is_within_meeting" wM a.Af a.Ao
 Ep:Binds K a.Ao ["meeting", "loads", "wants", "row"] []
 El:mg "is_within_meeting" = some (.ref a.Af)
 En:zY K (.ref a.Af)=true
 BJ:bq K "of_walker" "of_walker" C7 a.Bi a.Ch
 FF:Binds K a.Ch ["parts", "numbers", "walker"] []
 Fz:mg "of_walker" = some (.ref a.Bi)
 FC:zY K (.ref a.Bi)=true
 Be:bq K "bags_behind" "bags_behind" ww a.AJ a.BC
 GK:Binds K a.BC ["bags", "meeting", "loads", "wants", "row"] []
 GE:mg "bags_behind" = some (.ref a.AJ)
 GH:zY K (.ref a.AJ)=true
 AD:bq K "are_rows_kept" "are_rows_kept" wX a.Ar a.AS
 FY:Binds K a.AS ["book", "loads", "wants", "rows"] []
 FO:mg "are_rows_kept" = some (.ref a.Ar)
 FT:zY K (.ref a.Ar)=true
 C3:bq K "totals" "totals" D2 a.CP a.Dv
 HP:Binds K a.Dv ["size", "rows", "straight"] []
 HC:mg "totals" = some (.ref a.CP)
 HI:zY K (.ref a.CP)=true
 Ax:bq K "are_upto_manys" "are_upto_manys" qb a.Ak a.AM
 Du:Binds K a.AM ["sums", "parts"] []
 Ds:mg "are_upto_manys" = some (.ref a.Ak)
 Dt:zY K (.ref a.Ak)=true
 Bt:bq K "plan_worth" "plan_worth" wj a.AX a.BS
 Hj:Binds K a.BS ["book", "loads", "wants", "thing"] []
 Hc:mg "plan_worth" = some (.ref a.AX)
 Hg:zY K (.ref a.AX)=true
 BO:bq K "_law_sack" "_law_sack" wn a.Bo a.Cm
 HS:Binds K a.Cm ["_law_purse_here", "_law_book_here", "_law_walkers", "_law_later"] []
 HF:mg "_law_sack" = some (.ref a.Bo)
 HL:zY K (.ref a.Bo)=true
 Bx:bq K "_law_sacks" "_law_sacks" qE a.A9 a.BW
 E8:Binds K a.BW ["_law_script", "_law_book_here", "_law_head", "_law_first", "_law_later"] []
 E1:mg "_law_sacks" = some (.ref a.A9)
 E5:zY K (.ref a.A9)=true
 BQ:bq K "_law_goes" "_law_goes" qW a.Bq a.Co
 FH:Binds K a.Co ["_law_sacks_here", "_law_rests", "_law_walker", "_law_when", "_law_later"] []
 FB:mg "_law_goes" = some (.ref a.Bq)
 FE:zY K (.ref a.Bq)=true
 Cf:bq K "_law_row" "_law_row" wC a.BH a.CI
 Iw:Binds K a.CI ["_law_purse_here", "_law_rooms_here", "_law_meeting", "_law_loads", "_law_wants", "_law_state"] []
 Ip:mg "_law_row" = some (.ref a.BH)
 Ir:zY K (.ref a.BH)=true
 AE:bq K "_law_straight" "_law_straight" wI a.As a.AT
 DV:Binds K a.AT ["_law_purse_here", "_law_loads", "_law_wants", "_law_state"] []
 DS:mg "_law_straight" = some (.ref a.As)
 DU:zY K (.ref a.As)=true
 BP:bq K "_law_plan" "_law_plan" wo a.Bp a.Cn
 HU:Binds K a.Cn ["_law_script", "_law_head", "_law_book_here", "_law_loads", "_law_wants", "_law_first"] []
 HG:mg "_law_plan" = some (.ref a.Bp)
 HM:zY K (.ref a.Bp)=true
 Bg:bq K "_law_counts" "_law_counts" qg a.AL a.BE
 De:Binds K a.BE ["_law_thing", "_law_most"] []
 Dc:mg "_law_counts" = some (.ref a.AL)
 Dd:zY K (.ref a.AL)=true
 CL:bq K "_law_of" "_law_of" Eg a.Cq a.CZ
 Ej:Binds K a.CZ ["_law_walker", "_law_sacks_here", "_law_counted"] []
 Eh:mg "_law_of" = some (.ref a.Cq)
 Ei:zY K (.ref a.Cq)=true
 AF:bq K "_law_row_goes" "_law_row_goes" xt a.Au a.AU
 FZ:Binds K a.AU ["_law_rooms_here", "_law_meeting", "_law_loads", "_law_wants", "_law_row_here", "_law_state"] []
 FP:mg "_law_row_goes" = some (.ref a.Au)
 FU:zY K (.ref a.Au)=true
 Az:bq K "_law_once_goes" "_law_once_goes" wU a.Am a.AO
 Fm:Binds K a.AO ["_law_loads", "_law_wants", "_law_one", "_law_state"] []
 Fk:mg "_law_once_goes" = some (.ref a.Am)
 Fl:zY K (.ref a.Am)=true
 Bv:bq K "_law_worth" "_law_worth" wH a.AZ a.BU
 Hk:Binds K a.BU ["_law_book_here", "_law_loads", "_law_wants", "_law_plan_here"] []
 Hd:mg "_law_worth" = some (.ref a.AZ)
 Hh:zY K (.ref a.AZ)=true
 Ay:bq K "_law_otherwise" "_law_otherwise" qd a.Al a.AN
 Cz:Binds K a.AN ["_law_purse_here", "_law_old"] []
 Cw:mg "_law_otherwise" = some (.ref a.Al)
 Cy:zY K (.ref a.Al)=true
 AH:bq K "_law_in_a_row" "_law_in_a_row" wB a.Aw a.AW
 F3:Binds K a.AW ["_law_purse_here", "_law_rows"] []
 FR:mg "_law_in_a_row" = some (.ref a.Aw)
 FW:zY K (.ref a.Aw)=true
 Bf:bq K "_law_spoilt" "_law_spoilt" xz a.AK a.BD
 GL:Binds K a.BD ["_law_purse_here", "_law_plan_here", "_law_loads", "_law_wants"] []
 GF:mg "_law_spoilt" = some (.ref a.AK)
 GI:zY K (.ref a.AK)=true
 BA:bq K "_law_alike" "_law_alike" qr a.Bc a.BZ
 DH:Binds K a.BZ ["_law_book_here", "_law_loads", "_law_wants", "_law_thing"] []
 DB:mg "_law_alike" = some (.ref a.Bc)
 DE:zY K (.ref a.Bc)=true
 FL:bq K "law" "law" Dr a.Fa a.GU
 IN:Binds K a.GU ["_law_script"] []
 IM:mg "law" = some (.ref a.Fa)
 ab8:zY K (.ref a.Fa)=true
 iP:mg "all" = none
 Mr:mg "bool" = none
 jq:mg "int" = none
 aI:mg "isinstance" = none
 aJ:mg "len" = none
 cK:mg "list" = none
 Pf:mg "max" = none
 lu:mg "min" = none
 aU:mg "range" = none
 Vl:mg "set" = none
 Mq:mg "sorted" = none
 kZ:mg "sum" = none
 bI:mg "tuple" = none
 kY:mg "zip" = none
section
variable (P:Program) (w:World) {K:PySem.W.Frag}{mg:Str->Option Value} (base:Heap) {a:Ad}
theorem EC:aF ["_law_script", "_law_k", "_law_cell", "_law_left"] ["_law_script", "_law_k"] (aj qZ):=L2.bw
theorem Db (T:Tx K mg a):aW P w K mg base dQ 1 a.Bb a.BY ["_law_script", "_law_k"] (Nj K):=by
 refine T.Bz.ok EC (λvs H Q E h=>?_) (λbO A outer s H vs Q E hr h=>?_)
 ·obtain ⟨a,ns,k,rfl,_⟩:=h;rfl
 ·have nd:=EC.nd;have hu:=hr.units;obtain ⟨sa,ns,k,rfl,hS,hk,q⟩:=h;refine bP ?_;intro Y
  let B0:Bk Y ((af qZ).drop 5):=⟨_,(xU (xu (xq (xw (xP (xR (pv 3) (xR (xm fj (xm wR (xm wR (xm cH (pv 2) xS) (xm cH (pv 1) xS)) xS) xS) (xR xS xW rfl) rfl) rfl))))))⟩
  let B1:Bk Y ((af qZ).drop 3):=⟨_,(xU (xl (xx (xp cu (pv 2) xS (av _)) (xU (xu (xk (i:=3) nd rfl rfl (xm wW (pL jN xS) (pv 2))))) xr) (xl (xx (xp pQ (pv 2) (xm gK xS xS) (av _)) (xU (xu (xk (i:=3) nd rfl rfl (pv 2)))) xr) B0.bl)))⟩
  let B2:Bk Y ((af qZ).drop 1):=⟨_,(xU (xl (xx (xp cu (pv 1) (xf (xg rfl) (by rfl) T.aJ PySem.boot_len (xP (xR (pv 0) xW rfl))) (av _)) (xU (xu (xk (i:=2) nd rfl rfl (xi (xh rfl) (pv 0) (pv 1) (λ_ _=>rfl))))) xr) (xl (xk (i:=3) nd rfl rfl xS) B1.bl)))⟩
  refine ⟨_,(xU (xl (xk (i:=2) nd rfl rfl xS) B2.bl)),?_⟩;have c18:My 10 18:=⟨by decide,by decide,by decide⟩;have s3:3<=sizeLine:=by rw [sizeLine_eq];decide
  have fin:∀ (x y:Int) p,H p=none->Q (.ref p) (upd H p (.lst [.int x,.int y,.int 0])):=λx y p hp=>q p _ hp ⟨x,y,0,xQ⟩ (xT hp);have c69:∀ x:Int,JL x 69:=λx=>.inr ⟨by decide,by decide⟩;have aaU:∀ x:Int,JL x 40503:=λx=>.inr ⟨by decide,by decide⟩;refine (zr rfl (zr rfl ⟨sa,zr rfl ⟨.inl hS,aG rfl rfl (zr rfl (gn (fun σ H1=>∃ c:Int,σ=[some (.ref sa),some (.int k),some (.int c),none]/\H=H1) ?_ (λc k0=>?_) (λc=>⟨0,rfl,rfl⟩)))⟩⟩))
  ·rintro σ H1 ⟨c,rfl,rfl⟩;refine (zr rfl (aG rfl rfl (zr rfl (gn (fun σ H1=>∃ d:Int,σ=[some (.ref sa),some (.int k),some (.int c),some (.int d)]/\H=H1) ?_ (λz k0=>?_) (λz=>⟨0,rfl,rfl⟩)))))
   ·rintro σ H1 ⟨d,rfl,rfl⟩;refine (zr rfl (aG rfl rfl ⟨c18,aG rfl rfl (zr rfl (gn (fun σ H1=>∃ d:Int,σ=[some (.ref sa),some (.int k),some (.int c),some (.int d)]/\H=H1) ?_ (λz k0=>(zr rfl (k0 _ _ ⟨c,rfl,rfl⟩))) (λz=>⟨d,rfl,rfl⟩)))⟩));rintro σ H1 ⟨d,rfl,rfl⟩;exact (zr rfl (zr rfl (aG rfl rfl ⟨c69 _,zr rfl (aG rfl rfl ⟨aaU _,aG rfl rfl (aG rfl rfl (aG rfl rfl ⟨(by show (0:Int) < 2147483647;decide),s3,fin _ _⟩))⟩)⟩)))
   ·exact (zr rfl (zr rfl (aG rfl rfl (k0 _ _ (zr rfl rfl)))))
  ·have UM:k < ns.length:=by
    have:=of_decide_eq_true c;rw [zA] at this;omega
   exact (zr rfl (zr rfl ⟨sa,_,aG rfl rfl ⟨hS,wA (v:=V.int ns[k]) (by simp [UM]),k0 _ _ (zr rfl rfl)⟩⟩))
theorem EQ:aF ["_law_purse_here", "_law_many", "_law_digit", "_law_mixed"] ["_law_purse_here", "_law_many"] (aj qk):=L2.bw
theorem wO (T:Tx K mg a):aW P w K mg base dQ 1 a.Bm a.Ck ["_law_purse_here", "_law_many"] (PZ):=by
 refine T.BM.ok EQ (λvs H Q E h=>?_) (λbO A outer s H vs Q E hr h=>?_)
 ·obtain ⟨p,n,rfl,_⟩:=h;rfl
 ·have nd:=EQ.nd;have hu:=hr.units;obtain ⟨p,n,rfl,n0,n1,⟨x,y,z,hp⟩,q⟩:=h;refine bP ?_;intro Y
  let B0:Bk Y ((af qk).drop 3):=⟨_,(xU (xl (xk (i:=3) nd rfl rfl (xm fj (xm wR (xm wR (xm cH (pv 3) (pv 3)) (xm cH (xi (xh rfl) (pv 0) xS (λ_ _=>rfl)) xS)) (xi (xh rfl) (pv 0) xS (λ_ _=>rfl))) xS)) (xu (xq (xm fj (xm cS (xm fj (xm cH (pv 3) xS) xS) xS) (pv 1))))))⟩
  let B1:Bk Y ((af qk).drop 2):=⟨_,(xU (xl (xk (i:=3) nd rfl rfl (xm fj (xm cH (xm wR (xi (xh rfl) (pv 0) xS (λ_ _=>rfl)) (xm cH (xi (xh rfl) (pv 0) xS (λ_ _=>rfl)) xS)) xS) xS)) B0.bl))⟩
  let B2:Bk Y (nb (af qk) 0):=⟨_,(xU (xl (xk (i:=2) nd rfl rfl (xm fj (xi (xh rfl) (pv 0) xS (λ_ _=>rfl)) (pv 1))) (xl (wG (xm cS (xi (xh rfl) (pv 0) xS (λ_ _=>rfl)) (pv 1)) (wy (pv 0) xS wJ)) (xu (xq (pv 2))))))⟩
  refine ⟨_,(xU (xl (xx (xp fG (xi (xh rfl) (pv 0) xS (λ_ _=>rfl)) xS (av _)) B2.ps xr) (xl (nH (pv 0) xS (kN rfl) xS tH wJ) B1.bl))),?_⟩;have hS:aB K H p _:=aB.of hp;have cm:∀ x c:Int,-(2 ^ 64) < c->c < 2 ^ 64->JL x c:=λx c h h'=>.inr ⟨h,h'⟩;refine (zr rfl ⟨p,_,aG rfl rfl ⟨hS,rfl,aG rfl rfl (zr rfl (kG (λh1=>?_) λh1=>?_))⟩⟩)
  ·refine (zr rfl ⟨p,_,aG rfl rfl ⟨hS,rfl,zr rfl (aG rfl rfl ⟨n0,?_⟩)⟩⟩);refine (zr rfl ⟨p,_,aG rfl rfl ⟨hS,rfl,zr rfl (aG rfl rfl ⟨⟨n0,n1⟩,zr rfl ⟨p,_,_,0,rfl,rfl,hp,rfl,?_⟩⟩)⟩⟩);exact (zr rfl (q _ _ (xJ _ (by omega)) (yz _ n0) ⟨oF.set,_,_,_,xQ⟩))
  ·refine (zr rfl ⟨p,_,aG rfl rfl ⟨hS,rfl,aG rfl rfl ⟨p,_,_,2,rfl,rfl,hp,rfl,?_⟩⟩⟩);have h2:(upd H p (HO.lst ([V.int x,V.int y,V.int z].set 2 (.int (z + 1))))) p=some (.lst [V.int x,V.int y,V.int (z + 1)]):=xQ;have b2:oF p H (upd H p (HO.lst ([V.int x,V.int y,V.int z].set 2 (.int (z + 1))))):=oF.set;generalize upd H p (HO.lst ([V.int x,V.int y,V.int z].set 2 (.int (z + 1))))=H2 at h2 b2 ⊢;have Wz:aB K H2 p _:=aB.of h2;have big:(2147483647:Int) < 2 ^ 64:=by decide
   have low:-(2:Int) ^ 64 < 0:=by decide
   have pos:(0:Int) < 2147483647:=by decide
   refine (zr rfl ⟨p,_,aG rfl rfl ⟨Wz,rfl,zr rfl ⟨p,_,aG rfl rfl ⟨Wz,rfl,aG rfl rfl ⟨cm _ _ (by decide) (by decide),aG rfl rfl (aG rfl rfl ⟨cm _ _ (by decide) (by decide),aG rfl rfl ⟨(by show (0:Int) < 2147483647;decide),?_⟩⟩)⟩⟩⟩⟩⟩);have m0:=xJ ((y + (z + 1) * 362437) * 48271) (show (2147483647:Int)≠0 by decide);have m1:=yz ((y + (z + 1) * 362437) * 48271) pos;refine (zr rfl (zr rfl (aG rfl rfl ⟨.inl ⟨Int.lt_of_lt_of_le low m0,Int.lt_trans m1 big⟩,zr rfl ⟨p,_,aG rfl rfl ⟨Wz,rfl,aG rfl rfl ⟨cm _ _ (by decide) (by decide),aG rfl rfl (zr rfl ⟨p,_,aG rfl rfl ⟨Wz,rfl,aG rfl rfl (aG rfl rfl ⟨(by show (0:Int) < 2147483629;decide),?_⟩)⟩⟩)⟩⟩⟩⟩)));refine (zr rfl (aG rfl rfl ⟨cm _ _ (by decide) (by decide),aG rfl rfl ⟨(by show (0:Int) < 2147483563;decide),aG rfl rfl ⟨⟨by decide,by decide⟩,zr rfl (aG rfl rfl ⟨n0,?_⟩)⟩⟩⟩));exact q _ _ (xJ _ (by omega)) (yz _ n0) ⟨b2,_,_,_,h2⟩
theorem Fx:aF ["_law_purse_here", "_law_high"] ["_law_purse_here"] (aj Dy):=L2.bw
theorem HB (T:Tx K mg a):aW P w K mg base dQ 2 a.BI a.CJ ["_law_purse_here"] (SE):=by
 have Aa:=wO P w base T;refine T.Cg.ok Fx (λvs H Q E h=>?_) (λbO A outer s H vs Q E hr h=>?_)
 ·obtain ⟨p,rfl,_⟩:=h;rfl
 ·have nd:=Fx.nd;have hu:=hr.units;obtain ⟨p,rfl,hp,q⟩:=h;refine bP ?_;intro Y
  let B0:Bk Y ((af Dy).drop 1):=⟨_,(xU (xu (xq (xm fj (xm wR (xm cH (pv 1) xS) (xZ Aa (hr.mono (by decide)) rfl T.Ab T.Ac T.Ae .nil aq (xP (xR (pv 0) (xR xS xW rfl) rfl)))) (xm wR (xm gK xS xS) xS)))))⟩
  refine ⟨_,(xU (xl (xk (i:=1) nd rfl rfl (xZ Aa (hr.mono (by decide)) rfl T.Ab T.Ac T.Ae .nil aq (xP (xR (pv 0) (xR xS xW rfl) rfl)))) B0.bl)),?_⟩;refine (zr rfl ⟨p,zr rfl ⟨by decide,by decide,hp,λd H1 d0 d1 g1=>(zr rfl (aG rfl rfl ⟨.inr ⟨by decide,by decide⟩,zr rfl ⟨p,zr rfl ⟨by decide,by decide,g1.2,λe H2 e0 e1 g2=>(aG rfl rfl (aG rfl rfl ⟨⟨by decide,by decide,by decide⟩,aG rfl rfl (aG rfl rfl ⟨(by show (0:Int) < 10 ^ Int.toNat 9 + 1;decide),?_⟩)⟩))⟩⟩⟩))⟩⟩);have e9:(10:Int) ^ Int.toNat 9 + 1=1000000001:=by decide
  rw [e9];exact q _ _ (xJ _ (by decide)) (Int.lt_add_one_iff.mp (yz _ (by decide))) (g1.trans g2)
theorem EB:aF ["_law_purse_here", "_law_walkers", "_law_rooms_here", "_law_walker", "_law_room"] ["_law_purse_here", "_law_walkers"] (aj qa):=L2.bw
theorem GB (T:Tx K mg a):aW P w K mg base dQ 2 a.Ba a.BX ["_law_purse_here", "_law_walkers"] (Ni):=by
 have Aa:=wO P w base T;refine T.By.ok EB (λvs H Q E h=>?_) (λbO A outer s H vs Q E hr h=>?_)
 ·obtain ⟨p,n,rfl,_⟩:=h;rfl
 ·have nd:=EB.nd;have hu:=hr.units;obtain ⟨p,n,rfl,hn,hp,q⟩:=h;refine bP ?_;intro Y
  let B0:Bk Y ((nb (af qa) 1).drop 1):=⟨_,(xU (xl (xx (xp qA (pv 4) xS (av _)) (xU (xu (xk (i:=4) nd rfl rfl (xZ Aa (hr.mono (by decide)) rfl T.Ab T.Ac T.Ae .nil aq (xP (xR (pv 0) (xR xS xW rfl) rfl)))))) xr) (xu (jD (uM PySem.F.plainAttrs_list PySem.F.slot_list_append PySem.F.type_list_append f6 (pv 2) (xP (xR (pv 4) xW rfl)))))))⟩
  let B1:Bk Y (nb (af qa) 1):=⟨_,(xU (xl (xk (i:=4) nd rfl rfl (xm cS (xZ Aa (hr.mono (by decide)) rfl T.Ab T.Ac T.Ae .nil aq (xP (xR (pv 0) (xR xS xW rfl) rfl))) xS)) B0.bl))⟩
  let B2:Bk Y ((af qa).drop 1):=⟨_,(xU (xl (qP PassesOwn.never rfl (wV rfl T.aU (xP (xR (pv 1) xW rfl))) (xX (i:=3) nd rfl rfl) B1.ps) (xu (xq (wK (wv) (by rfl) T.bI zy (xP (xR (pv 2) xW rfl)))))))⟩
  refine ⟨_,(xU (xl (xk (i:=2) nd rfl rfl (xw qU)) B2.bl)),?_⟩;have line:1001<=sizeLine:=by rw [sizeLine_eq];decide
  refine ⟨zx _,λl hl=>?_⟩;have npl:=hp.ne hl;refine (zr rfl (zr rfl ⟨by omega,by omega,?_⟩));refine (let W1:IV:=λi σ H2=>∃ v3 v4 rs,σ=[some (.ref p),some (.int n),some (.ref l),v3,v4]/\H2 l=some (.lst (List.map V.int rs))/\rs.length=i/\(∀ r∈rs,(0:Int)<=r/\r<=99)/\Go p H H2;wq (lo:=0) (n:=n) W1)
   ⟨_,_,[],rfl,xQ,rfl,(λ_ z=>nomatch z),(Go.refl hp).new hl⟩ ?_ ?_
  ·rintro i σ H2 hi ⟨v3,v4,rs,rfl,h2,hlen,hr,go⟩;refine (zr rfl ⟨p,zr rfl ⟨by decide,by decide,go.2,λd H3 d0 d1 g3=>(aG rfl rfl ⟨⟨by decide,by decide⟩,?_⟩)⟩⟩);refine (zr rfl ⟨rfl,zr rfl (gn (fun σ H4=>∃ x:Int,σ=[some (.ref p),some (.int n),some (.ref l),some (.int (0 + (i:Int))),some (.int x)]/\0<=x/\x<=99/\Go p H2 H4) ?_ (λc k0=>(zr rfl ⟨p,zr rfl ⟨by decide,by decide,g3.2,λe H4 e0 e1 g4=>k0 _ _ ⟨e,rfl,e0,by omega,g3.trans g4⟩⟩⟩)) (λc=>(zr rfl ⟨by omega,by omega,g3⟩)))⟩);rintro σ H4 ⟨x,rfl,x0,x1,g4⟩;have h4:=g4.1 l _ npl h2;refine (zr rfl ⟨.inl ⟨rfl,_,aB.of h4⟩,zr rfl ⟨l,aG rfl rfl ⟨h4,by rw [zA];omega,_,_,rs++[x],rfl,by rw [xQ,zB];rfl,by simp [hlen],λr UG=>?_,?_⟩⟩⟩)
   ·rcases zV.mp UG with h | h
    ·exact hr r h
    ·cases zE.mp h;exact ⟨x0,x1⟩
   ·have g2:=go.trans g4;refine ⟨λb u nb e=>?_,?_⟩
    ·rw [xj (xV e hl)];exact g2.1 b u nb e
    ·obtain ⟨a,b,c,e⟩:=g2.2;exact ⟨a,b,c,by rw [xj npl.symm];exact e⟩
  ·rintro σ H2 ⟨v3,v4,rs,rfl,h2,hlen,hr,go⟩;exact (zr rfl ⟨l,zr rfl (.inl ⟨aB.of h2,λt ht=>q t rs _ (go.new ht) xQ hlen hr⟩)⟩)
theorem ER:aF ["_law_purse_here", "_law_way"] ["_law_purse_here"] (aj qm):=L2.bw
theorem GY (T:Tx K mg a):aW P w K mg base dQ 2 a.Bn a.Cl ["_law_purse_here"] (P0):=by
 have Aa:=wO P w base T;refine T.BN.ok ER (λvs H Q E h=>?_) (λbO A outer s H vs Q E hr h=>?_)
 ·obtain ⟨p,rfl,_⟩:=h;rfl
 ·have nd:=ER.nd;have hu:=hr.units;obtain ⟨p,rfl,hp,q⟩:=h;refine bP ?_;intro Y
  let B0:Bk Y ((af qm).drop 3):=⟨_,(xU (xu (xq (xm wR xS (xZ Aa (hr.mono (by decide)) rfl T.Ab T.Ac T.Ae .nil aq (xP (xR (pv 0) (xR (xm cH xS (xm gK xS xS)) xW rfl) rfl)))))))⟩
  let B1:Bk Y ((af qm).drop 2):=⟨_,(xU (xl (xx (xp qA (pv 1) xS (av _)) (xU (xu (xq (xm wR xS (xZ Aa (hr.mono (by decide)) rfl T.Ab T.Ac T.Ae .nil aq (xP (xR (pv 0) (xR xS xW rfl) rfl))))))) xr) B0.bl))⟩
  let B2:Bk Y ((af qm).drop 1):=⟨_,(xU (xl (xx (xp cu (pv 1) xS (av _)) (xU (xu (xq (xi (xh rfl) (xw (xP (xR xS (xR xS (xR xS xW rfl) rfl) rfl))) (pv 1) (λ_ _=>rfl))))) xr) B1.bl))⟩
  refine ⟨_,(xU (xl (xk (i:=1) nd rfl rfl (xZ Aa (hr.mono (by decide)) rfl T.Ab T.Ac T.Ae .nil aq (xP (xR (pv 0) (xR xS xW rfl) rfl)))) B2.bl)),?_⟩;have s3:3<=sizeLine:=by rw [sizeLine_eq];decide
  refine (zr rfl ⟨p,zr rfl ⟨by decide,by decide,hp,λd H1 d0 d1 g1=>(zr rfl (aG rfl rfl (zr rfl (kG (λh1=>?_) λh1=>?_))))⟩⟩)
  ·obtain ⟨v,hv,v0,v1⟩:∃ v:Int,bQ [V.int 0,V.int 1,V.int 1] d=some (V.int v)/\0<=v/\v<=1:=by
    obtain rfl | rfl | rfl:d=0\/d=1\/d=2:=by omega
    ·exact ⟨0,rfl,by decide,by decide⟩
    ·exact ⟨1,rfl,by decide,by decide⟩
    ·exact ⟨1,rfl,by decide,by decide⟩
   exact ⟨s3,λl hl=>(zr rfl (bL xQ hv (q _ _ v0 (by omega) (g1.new hl))))⟩
  ·refine (zr rfl ⟨rfl,zr rfl (kG (λh2=>?_) λh2=>?_)⟩)
   ·exact (zr rfl ⟨p,zr rfl ⟨by decide,by decide,g1.2,λe H2 e0 e1 g2=>(aG rfl rfl (q _ _ (by omega) (by omega) (g1.trans g2)))⟩⟩)
   ·have e16:(16:Int) * 10 ^ Int.toNat 6=16000000:=by decide
    refine (zr rfl (aG rfl rfl ⟨⟨by decide,by decide,by decide⟩,aG rfl rfl ⟨.inl ⟨by decide,by decide⟩,p,zr rfl ⟨by decide,by decide,g1.2,λe H2 e0 e1 g2=>(aG rfl rfl (q _ _ (by omega) (by rw [e16] at e1;omega) (g1.trans g2)))⟩⟩⟩))
theorem Dp:aF ["_law_purse_here", "_law_walkers", "_law_most", "_law_found", "_law_when", "_law_busy", "_law_k", "_law_one", "_law_other", "_law_gap", "_law_passed", "_law_late"] ["_law_purse_here", "_law_walkers", "_law_most"] (aj xy):=L2.bw
theorem Fi (T:Tx K mg a):aW P w K mg base dQ 3 a.Av a.AV ["_law_purse_here", "_law_walkers", "_law_most"] (sj):=by
 have Aa:=wO P w base T;have Ij:=GY P w base T;refine T.AG.ok Dp (λvs H Q E h=>?_) (λbO A outer s H vs Q E hr h=>?_)
 ·obtain ⟨p,w,n,rfl,_⟩:=h;rfl
 ·have nd:=Dp.nd;have hu:=hr.units;obtain ⟨p,w,n,rfl,hn,w9,hw,hp,q⟩:=h;refine bP ?_;intro Y
  let B0:Bk Y ((af xy).drop 6):=⟨_,(xU (xu (xq (wK (wv) (by rfl) T.bI zy (xP (xR (wc (own:=["_law_then", "_law_low", "_law_high", "_law_room"]) (caps:=[11]) rfl (show aD ["_law_then", "_law_low", "_law_high", "_law_room"] [11] ["_law_purse_here", "_law_walkers", "_law_most", "_law_found", "_law_when", "_law_busy", "_law_k", "_law_one", "_law_other", "_law_gap", "_law_passed", "_law_late"] (aj xy) _ from L2.b8) (wZ rfl (xf (tW) (by rfl) T.Mq PyProof.Rows.boot_sorted (xP (xR (pv 3) xW rfl)))) (λ_ _ _ _=>(wE (n:=4) rfl rfl (xY (xX (i:=0) (show List.Nodup (["_law_then", "_law_low", "_law_high", "_law_room", "_law_late"]:List Str) from by decide +kernel) rfl rfl) (xY (xX (i:=1) (show List.Nodup (["_law_then", "_law_low", "_law_high", "_law_room", "_law_late"]:List Str) from by decide +kernel) rfl rfl) (xY (xX (i:=2) (show List.Nodup (["_law_then", "_law_low", "_law_high", "_law_room", "_law_late"]:List Str) from by decide +kernel) rfl rfl) (xY (xX (i:=3) (show List.Nodup (["_law_then", "_law_low", "_law_high", "_law_room", "_law_late"]:List Str) from by decide +kernel) rfl rfl) wD)))))) (λ_ _ _ _=>wP) (λ_ _ _ _=>(wS (xP (xR (pv 1) (xR (pv 2) (xR (xm wR (pv 0) (pv 4)) (xR (pv 3) xW rfl) rfl) rfl) rfl))))) xW rfl))))))⟩
  let B1:Bk Y ((af xy).drop 5):=⟨_,(xU (xl (xx (@PW.pt _ _ _ (dH (xp qA (xZ Aa (hr.mono (by decide)) rfl T.Ab T.Ac T.Ae .nil aq (xP (xR (pv 0) (xR xS xW rfl) rfl))) xS (av _)) (dc (xp (iz hu) (pv 3) (xw qU) (av _))))) (xU (xu (xk (i:=11) nd rfl rfl (xm wW (xm gK xS xS) (pv 4))))) xr) B0.bl))⟩
  let B2:Bk Y ((nb (af xy) 3).drop 9):=⟨_,(xU (xu (jD (uM PySem.F.plainAttrs_list PySem.F.slot_list_append PySem.F.type_list_append f6 (pv 3) (xP (xR (wS (xP (xR (pv 4) (xR (xf (dD rfl) (by rfl) T.lu yc (xP (xR (pv 7) (xR (pv 8) xW rfl) rfl))) (xR (xf (mQ rfl) (by rfl) T.Pf PyProof.Rows.boot_max (xP (xR (pv 7) (xR (pv 8) xW rfl) rfl))) (xR (pv 10) xW rfl) rfl) rfl) rfl))) xW rfl))))))⟩
  let B3:Bk Y (nb (nb (af xy) 3) 8):=⟨_,(xU (xu (xk (i:=10) nd rfl rfl (xm wR xS (xZ Aa (hr.mono (by decide)) rfl T.Ab T.Ac T.Ae .nil aq (xP (xR (pv 0) (xR xS xW rfl) rfl)))))))⟩
  let B4:Bk Y ((nb (af xy) 3).drop 8):=⟨_,(xU (xl (xx (xp qA (xZ Aa (hr.mono (by decide)) rfl T.Ab T.Ac T.Ae .nil aq (xP (xR (pv 0) (xR xS xW rfl) rfl))) xS (av _)) B3.ps xr) B2.bl))⟩
  let B5:Bk Y ((nb (af xy) 3).drop 7):=⟨_,(xU (xl (xk (i:=10) nd rfl rfl (xm wR xS (xm cS (xZ Aa (hr.mono (by decide)) rfl T.Ab T.Ac T.Ae .nil aq (xP (xR (pv 0) (xR xS xW rfl) rfl))) xS))) B4.bl))⟩
  let B6:Bk Y ((nb (af xy) 3).drop 4):=⟨_,(xU (xl (xx (xp fG (pv 9) xS (av _)) (xU (xu (xk (i:=5) nd rfl rfl (xw qU)))) xr) (xl (xk (i:=4) nd rfl rfl (xm wR (pv 4) (pv 9))) (xl (xk (i:=5) nd rfl rfl (xm qS (pv 5) (xw (xP (xR (pv 7) (xR (pv 8) xW rfl) rfl))))) B5.bl))))⟩
  let B7:Bk Y ((nb (af xy) 3).drop 3):=⟨_,(xU (xl (xx (@PW.pt _ _ _ (qM (xp (dI rfl) (pv 7) (pv 5) rfl) (wx (xp (dI rfl) (pv 8) (pv 5) rfl)))) (xU (xu (xk (i:=9) nd rfl rfl (xf (mQ rfl) (by rfl) T.Pf PyProof.Rows.boot_max (xP (xR xS (xR (pv 9) xW rfl) rfl)))))) xr) B6.bl))⟩
  let B8:Bk Y ((nb (af xy) 3).drop 1):=⟨_,(xU (xl (xk (i:=8) nd rfl rfl (xm fj (xm wR (xm wR (pv 7) xS) (xZ Aa (hr.mono (by decide)) rfl T.Ab T.Ac T.Ae .nil aq (xP (xR (pv 0) (xR (xm wW (pv 1) xS) xW rfl) rfl)))) (pv 1))) (xl (xk (i:=9) nd rfl rfl (xZ Ij (hr.mono (by decide)) rfl T.HE T.HK T.HR .nil aq (xP (xR (pv 0) xW rfl)))) B7.bl)))⟩
  let B9:Bk Y (nb (af xy) 3):=⟨_,(xU (xl (xk (i:=7) nd rfl rfl (xZ Aa (hr.mono (by decide)) rfl T.Ab T.Ac T.Ae .nil aq (xP (xR (pv 0) (xR (pv 1) xW rfl) rfl)))) B8.bl))⟩
  let OA:Bk Y ((af xy).drop 2):=⟨_,(xU (xl (xk (i:=5) nd rfl rfl (xw qU)) (xl (qP PassesOwn.never rfl (wV rfl T.aU (xP (xR (pv 2) xW rfl))) (xX (i:=6) nd rfl rfl) B9.ps) (xl (xk (i:=11) nd rfl rfl xS) B1.bl))))⟩
  let RM:Bk Y ((af xy).drop 1):=⟨_,(xU (xl (xk (i:=4) nd rfl rfl (xm wR xS (xm cH (xm cS (xZ Aa (hr.mono (by decide)) rfl T.Ab T.Ac T.Ae .nil aq (xP (xR (pv 0) (xR xS xW rfl) rfl))) xS) (xZ Aa (hr.mono (by decide)) rfl T.Ab T.Ac T.Ae .nil aq (xP (xR (pv 0) (xR (xm gK xS xS) xW rfl) rfl)))))) OA.bl))⟩
  refine ⟨_,(xU (xl (xk (i:=3) nd rfl rfl (xw qU)) RM.bl)),?_⟩;have line:1001<=sizeLine:=by rw [sizeLine_eq];decide
  have c7:My 10 7:=⟨by decide,by decide,by decide⟩;have e7:(10:Int) ^ Int.toNat 7=10000000:=by decide
  have e64:(2:Int) ^ 64 > 1000:=by decide
  have lU:(2:Int) ^ 200 > 1000:=by decide
  refine ⟨zx _,λlf LD=>?_⟩;have ME:=hp.ne LD;have hp1:aK (upd H lf (.lst [])) p:=hp.new LD;refine (zr rfl ⟨p,zr rfl ⟨by decide,by decide,hp1,λd H1 d0 d1 g1=>(aG rfl rfl ⟨⟨by decide,by decide⟩,zr rfl (aG rfl rfl ⟨c7,?_⟩)⟩)⟩⟩);refine ⟨p,zr rfl ⟨by decide,by decide,g1.2,λd2 H2 Sl Vg g2=>(aG rfl rfl ⟨.inl ⟨by omega,by omega⟩,aG rfl rfl ?_⟩)⟩⟩;rw [e7] at Vg;refine ⟨zx _,λlb kK=>?_⟩;have fr2:=g1.trans g2;have Rc:H2 lf=some (.lst []):=fr2.1 lf _ ME xQ;have go0:Go p H H2:=((Go.refl hp).new LD).trans fr2;refine (zr rfl (zr rfl ⟨by omega,by omega,?_⟩));have wh0:1<=1 + d / 2 * d2/\1 + d / 2 * d2<=10000000:=by
   obtain h | h:d / 2=0\/d / 2=1:=by omega
   ·rw [h];omega
   ·rw [h];omega
  refine wq (lo:=0) (n:=n) (WM p lf w n H)
   ⟨_,_,_,_,_,_,lb,[],[],rfl,by rw [xj (xV Rc kK)];exact Rc,xQ,(xV Rc kK).symm,go0.2.ne kK,(λ_ z=>nomatch z),⟨(λ_ z=>nomatch z),.nil,(λ_ z=>nomatch z)⟩,rfl,by simp,wh0.1,(by have:=wh0.2;simpa using this),go0.new kK⟩ ?_ ?_
  ·rintro i σ H3 hi ⟨v6,v7,v8,v9,v10,wh,lb,bs,fs,rfl,Rk,h3b,nbf,Tr,WA,F,Lm,QI,VC,XX,go⟩;have w2:2<=w:=by omega
   refine (zr rfl (zr rfl ⟨p,w,rfl,by omega,by omega,go.2,λone H4 o0 o1 g4=>?_⟩));refine (zr rfl (aG rfl rfl (zr rfl (zr rfl (aG rfl rfl ⟨p,zr rfl ⟨by omega,by omega,g4.2,λx H5 x0 x1 g5=>(aG rfl rfl (zr rfl (aG rfl rfl ⟨by omega,?_⟩)))⟩⟩)))));have ot:=Qv o0 o1 x0 x1;refine (zr rfl ⟨p,rfl,g5.2,λgap H6 afp afo g6=>?_⟩);have U7:=g4.trans (g5.trans g6);have MK:=U7.1 lb _ Tr h3b;have hf6:=U7.1 lf _ ME Rk;refine (zr rfl (zr rfl ⟨lb,zr rfl ⟨.inl (aB.of MK),rfl,mL bs,zr rfl (ZG (fun σ H7=>∃ gp:Int,σ=[some (.ref p),some (.int w),some (.int n),some (.ref lf),some (.int wh),some (.ref lb),some (.int (0 + (i:Int))),some (.int one),some (.int ((one + 1 + x) % w)),some (.int gp),v10,none]/\H6=H7/\0<=gp/\gp<=16000000/\(gp=0->one ∉ bs/\(one + 1 + x) % w ∉ bs)) ?_ (λc1 k0=>?_) (λc1 k0=>(zr rfl (zr rfl ⟨lb,zr rfl ⟨.inl (aB.of MK),rfl,mL bs,zr rfl (tF (λc2=>?_) (λc2=>?_))⟩⟩))))⟩⟩))
   rotate_left
   ·exact (zr rfl (lV rfl (k0 _ _ (zr rfl ⟨rfl,by split <;> omega,by split <;> omega,λz=>by split at z <;> omega⟩))))
   ·exact (zr rfl (lV rfl (k0 _ _ (zr rfl ⟨rfl,by split <;> omega,by split <;> omega,λz=>by split at z <;> omega⟩))))
   ·have c1':one ∉ bs:=of_decide_eq_false (kI.symm.trans c1);have c2':(one + 1 + x) % w ∉ bs:=of_decide_eq_false (kI.symm.trans c2);exact k0 _ _ ⟨gap,rfl,rfl,by omega,by omega,λ_=>⟨c1',c2'⟩⟩
   rintro σ H7 ⟨gp,rfl,rfl,gp0,gp1,hg⟩;refine (zr rfl (aG rfl rfl (zr rfl (gn (fun σ H7=>∃ ly bz,σ=[some (.ref p),some (.int w),some (.int n),some (.ref lf),some (.int wh),some (.ref ly),some (.int (0 + (i:Int))),some (.int one),some (.int ((one + 1 + x) % w)),some (.int gp),v10,none]/\Go p H3 H7/\H7 ly=some (.lst (List.map V.int bz))/\ly≠p/\bz.length<=2 * i/\∀ z∈bs,gp=0->z∈bz) ?_ (λc3 k0=>⟨zx _,λln hln=>k0 _ _ ⟨ln,[],rfl,U7.new hln,xQ,U7.2.ne hln,zx _,λ_ _ z=>by have:=of_decide_eq_true c3;omega⟩⟩) (λc3=>⟨lb,bs,rfl,U7,MK,Tr,QI,λ_ z _=>z⟩)))));rintro σ H7 ⟨ly,bz,rfl,gy,hyb,nyp,aej,hb0⟩;have afj:=gy.1 lf _ ME Rk;refine (zr rfl (zr rfl (aG rfl rfl ?_)));refine (zr rfl (zr rfl (zr rfl ⟨by show 2<=sizeLine;omega,λl2 JU=>?_⟩)));have WB:=gy.new (o:=HO.lst [V.int one,V.int ((one + 1 + x) % w)]) JU;have Uy:=xT (o:=HO.lst [V.int one,V.int ((one + 1 + x) % w)]) JU _ _ hyb;have h22:(upd H7 l2 (HO.lst [V.int one,V.int ((one + 1 + x) % w)])) l2=some (.lst [V.int one,V.int ((one + 1 + x) % w)]):=xQ;generalize upd H7 l2 (HO.lst [V.int one,V.int ((one + 1 + x) % w)])=H8 at WB Uy h22 ⊢;refine ⟨ly,l2,aG rfl rfl ⟨Uy,h22,(by simp only [zA,zH,zL];omega),λl3 Wt=>?_⟩⟩;have n3p:l3≠p:=WB.2.ne Wt;have n3f:l3≠lf:=(xV (WB.1 lf _ ME Rk) Wt).symm;have g3':=WB.new (o:=HO.lst (List.map V.int bz++[V.int one,V.int ((one + 1 + x) % w)])) Wt;have U5:(upd H8 l3 (HO.lst (List.map V.int bz++[V.int one,V.int ((one + 1 + x) % w)]))) l3=some (.lst (List.map V.int (bz++[one,(one + 1 + x) % w]))):=by rw [xQ,zB];rfl
   generalize upd H8 l3 (HO.lst (List.map V.int bz++[V.int one,V.int ((one + 1 + x) % w)]))=H9 at g3' U5 ⊢;refine (zr rfl ⟨p,zr rfl ⟨by decide,by decide,g3'.2,λd4 eX d40 d41 cX=>(aG rfl rfl ⟨⟨by decide,by decide⟩,aG rfl rfl ?_⟩)⟩⟩);refine (zr rfl ⟨p,zr rfl ⟨by decide,by decide,cX.2,λd5 fX d50 d51 kO=>⟨rfl,zr rfl (gn (fun σ lI=>∃ mm:Int,σ=[some (.ref p),some (.int w),some (.int n),some (.ref lf),some (.int (wh + gp)),some (.ref l3),some (.int (0 + (i:Int))),some (.int one),some (.int ((one + 1 + x) % w)),some (.int gp),some (.int mm),none]/\1<=mm/\mm<=99/\Go p H9 lI) ?_ (λc5 k0=>(zr rfl ⟨p,zr rfl ⟨by decide,by decide,kO.2,λd6 lI WE WD Si=>(aG rfl rfl (k0 _ _ (zr rfl ⟨by omega,by omega,(cX.trans kO).trans Si⟩)))⟩⟩)) (λc5=>(zr rfl ⟨by omega,by omega,cX.trans kO⟩)))⟩⟩⟩);rintro σ lI ⟨mm,rfl,mm0,mm1,Si⟩;have Rm:=g3'.trans Si;have hz:=Rm.1 lf _ ME Rk;refine (zr rfl ⟨.inl ⟨rfl,_,aB.of hz⟩,zr rfl (zr rfl (zr rfl (lV rfl (zr rfl (zr rfl (lV rfl (zr rfl ⟨by show 4<=sizeLine;omega,λt ht=>⟨lf,aG rfl rfl ⟨(by rw [xj (xV hz ht)];exact hz),(by rw [zA];omega),?_⟩⟩⟩)))))))⟩);exact WM.step ME LD F Lm (bs':=bz++[one,(one + 1 + x) % w]) (by simp only [zU,zH,zL];omega) VC XX hz (Si.1 l3 _ n3p U5) n3f n3p (λa ha=>Rm.aS go.2 _ _ (WA a ha)) (go.trans Rm) ht gp0 gp1 o0 o1 ot.1 ot.2.1 ot.2.2 mm0 mm1 hg (λz gA nO=>yh _ (hb0 z gA nO)) (by simp) (by simp)
  ·rintro σ H3 ⟨v6,v7,v8,v9,v10,wh,lb,bs,fs,rfl,Rk,h3b,nbf,Tr,WA,F,Lm,QI,VC,XX,go⟩;have c9:My 10 9:=⟨by decide,by decide,by decide⟩;have e9:(10:Int) ^ Int.toNat 9=1000000000:=by decide
   refine (zr rfl ⟨p,zr rfl ⟨by decide,by decide,go.2,λd8 H4 _ _ g4=>⟨rfl,zr rfl (N5 (fun σ H5=>∃ iE:Int,(∃ v6 v7 v8 v9 v10,σ=[some (.ref p),some (.int w),some (.int n),some (.ref lf),some (.int wh),some (.ref lb),v6,v7,v8,v9,v10,some (.int iE)])/\Go p H3 H5/\0<=iE/\(fs≠[]->wh + iE<=1000000000)) ?_ (λc k0=>?_) (λc=>⟨0,⟨_,_,_,_,_,rfl⟩,g4,yp _,λ_=>by omega⟩))⟩⟩⟩)
   rotate_left
   ·have h4f:=g4.1 lf _ ME Rk;refine (zr rfl ⟨zx _,λl4 LG=>⟨lf,l4,zr rfl ⟨rfl,aB.of (by rw [xj (xV h4f LG)];exact h4f),aB.of xQ,zr rfl (tF (λc2=>?_) (λc2=>?_))⟩⟩⟩)
    ·exact (aG rfl rfl ⟨c9,zr rfl (aG rfl rfl (k0 _ _ ⟨_,⟨_,_,_,_,_,rfl⟩,g4.new LG,by rw [e9];omega,λ_=>by rw [e9];omega⟩))⟩)
    ·exact k0 _ _ ⟨0,⟨_,_,_,_,_,rfl⟩,g4.new LG,yp _,λ_=>by omega⟩
   rintro σ Hz ⟨iE,⟨v6',v7',v8',v9',adl,rfl⟩,gz,L0,L1⟩;have hz:=gz.1 lf _ ME Rk;refine (zr rfl ⟨lf,fs.map (λa=>(a.1,a.2.row)),rfl,?_,(by rw [zA];omega),(λa ha=>?_),λD qs hD pq sq=>?_⟩)
   ·rw [zz];exact aB.of hz
   ·obtain ⟨b,hb,rfl⟩:=zX.mp ha;exact ⟨gz.aS go.2 _ _ (WA b hb),by intro z;cases z⟩
   obtain ⟨rs,YC,srs,rfl⟩:=vX pq sq;refine ⟨D,rfl,⟨_,aB.of xQ⟩,?_⟩;have Jd:rs.length=n:=by rw [YC.length_eq,Lm]
   have hDl:(upd Hz D (HO.lst (List.map (λa=>V.ref a.1) (List.map (λa:Addr×M4=>(a.1,a.2.row)) rs)))) D=some (.lst (rs.map λa=>V.ref a.1)):=by rw [xQ,zz];rfl
   have rD:=λa (ha:a∈rs)=>(cg.new (o:=HO.lst (List.map (λa=>V.ref a.1) (List.map (λa:Addr×M4=>(a.1,a.2.row)) rs))) hD) _ _ (gz.aS go.2 _ _ (WA a (YC.mem_iff.mp ha)));have gD:=(go.trans gz).new (o:=HO.lst (List.map (λa=>V.ref a.1) (List.map (λa:Addr×M4=>(a.1,a.2.row)) rs))) hD;refine (let W2:IC:=λi τ acc H5=>∃ ps:List (Addr×M4),(∃ t0 t1 t2 t3,τ=[t0,t1,t2,t3,some (.int iE)])/\acc=(ps.map λa=>V.ref a.1)/\(ps.map (·.2))=((rs.take i).map λa=>a.2.iE iE)/\je H5 ps/\ay (upd Hz D (HO.lst (List.map (λa=>V.ref a.1) (List.map (λa:Addr×M4=>(a.1,a.2.row)) rs)))) H5;wT (K:=K) (a:=D) (xs:=rs.map λa=>V.ref a.1) W2)
    ?_ (by rw [zA];omega) ?_ ?_ ?_
   ·exact ⟨[],⟨_,_,_,_,rfl⟩,rfl,rfl,(λ_ z=>nomatch z),ay.refl _⟩
   ·rintro i τ acc H6 ⟨ps,⟨t0,t1,t2,t3,rfl⟩,rfl,Sk,rws,sm⟩;have:=congrArg List.length Sk;rw [zA,zA,zR] at this;exact ⟨by rw [zA];omega,sm.seq (aB.of hDl)⟩
   ·rintro i x τ acc H5 C hx ⟨ps,⟨t0,t1,t2,t3,rfl⟩,rfl,Sk,rws,sm⟩ hC;obtain ⟨r,hr,rfl⟩:=wF hx;have Jr:=sm _ _ (rD r (zC hr));refine (RT Jr (zr rfl (zr rfl (zr rfl (zr rfl (aG rfl rfl (zr rfl ⟨by show 4<=sizeLine;omega,λt ht=>hC _ _ _ ?_⟩)))))));refine ⟨ps++[(t,r.2.iE iE)],⟨_,_,_,_,rfl⟩,by rw [zB];rfl,by rw [zB,xv hr,zB,Sk];rfl,λa ha=>?_,sm.trans (xT ht)⟩;rcases zV.mp ha with h | h
    ·exact xT ht _ _ (rws a h)
    ·cases zE.mp h;exact xQ
   ·rintro τ acc H6 ⟨ps,⟨t0,t1,t2,t3,rfl⟩,rfl,Sk,rws,sm⟩ lt gc;refine ⟨lt,zr rfl (.inl ⟨aB.of xQ,λt ht=>q t ps _ (((gD.same sm).new gc).new ht) xQ ((rws.aS (cg.new gc)).aS (cg.new ht)) ?_ ?_⟩)⟩
    ·rw [Sk,zA,zd];exact F.good (by omega) L0 L1 YC srs
    ·have:=congrArg List.length Sk;rw [zA,zA,zA,zd] at this;omega
theorem EV:aF ["_law_purse_here", "_law_most_walkers", "_law_most_meetings", "_law_walkers", "_law_most"] ["_law_purse_here", "_law_most_walkers", "_law_most_meetings"] (aj CO):=L2.bw
theorem Hb (T:Tx K mg a):aW P w K mg base dQ 4 a.Br a.Cp ["_law_purse_here", "_law_most_walkers", "_law_most_meetings"] (P7):=by
 have Aa:=wO P w base T;have Hy:=GB P w base T;have Ge:=Fi P w base T;refine T.BR.ok EV (λvs H Q E h=>?_) (λbO A outer s H vs Q E hr h=>?_)
 ·obtain ⟨p,a,n,rfl,_⟩:=h;rfl
 ·have nd:=EV.nd;have hu:=hr.units;obtain ⟨p,aw,n,rfl,a1,a2,hn,hp,q⟩:=h;refine bP ?_;intro Y
  let B0:Bk Y ((af CO).drop 3):=⟨_,(xU (xu (xq (wS (xP (xR (xZ Hy (hr.mono (by decide)) rfl T.He T.Hi T.Hl .nil aq (xP (xR (pv 0) (xR (pv 3) xW rfl) rfl))) (xR (xZ Ge (hr.mono (by decide)) rfl T.FQ T.FV T.F1 .nil aq (xP (xR (pv 0) (xR (pv 3) (xR (pv 4) xW rfl) rfl) rfl))) xW rfl) rfl))))))⟩
  let B1:Bk Y ((af CO).drop 1):=⟨_,(xU (xl (xk (i:=4) nd rfl rfl (xf (dD rfl) (by rfl) T.lu yc (xP (xR (pv 2) (xR (xZ Aa (hr.mono (by decide)) rfl T.Ab T.Ac T.Ae .nil aq (xP (xR (pv 0) (xR (xm wR (pv 2) xS) xW rfl) rfl))) xW rfl) rfl)))) (xl (xx (xp qA (pv 3) xS (av _)) (xU (xu (xk (i:=4) nd rfl rfl xS))) xr) B0.bl)))⟩
  refine ⟨_,(xU (xl (xk (i:=3) nd rfl rfl (xm wR xS (xZ Aa (hr.mono (by decide)) rfl T.Ab T.Ac T.Ae .nil aq (xP (xR (pv 0) (xR (pv 1) xW rfl) rfl))))) B1.bl)),?_⟩;have line:1001<=sizeLine:=by rw [sizeLine_eq];decide
  have lU:(2:Int) ^ 200 > 1000:=by decide
  refine (zr rfl (zr rfl ⟨p,aw,rfl,by omega,by omega,hp,λd H1 d0 d1 g1=>(aG rfl rfl ?_)⟩));obtain ⟨k,rfl⟩:=zm d0;refine (zr rfl (zr rfl (zr rfl (aG rfl rfl ⟨p,zr rfl ⟨by omega,by omega,g1.2,λe H2 e0 e1 g2=>(lV rfl ?_)⟩⟩))));obtain ⟨m,em,hm⟩:∃ m:Nat,(if e < (n:Int) then e else (n:Int))=m/\m<=n:=by
   refine ⟨(if e < (n:Int) then e else (n:Int)).toNat,?_,?_⟩ <;> split <;> omega
  refine ⟨_,rfl,rfl,_,rfl,gn (fun σ H3=>∃ m:Nat,σ=[some (.ref p),some (.int aw),some (.int n),some (.int (1 + (k:Int))),some (.int m)]/\m<=n/\(m=0\/1<=k)/\Go p H H3) ?_ (λc k0=>k0 _ _ ⟨0,rfl,zx _,.inl rfl,g1.trans g2⟩) (λc=>⟨m,by rw [<-em];rfl,hm,.inr (by
    by_cases hk:k=0
    ·subst hk;exact absurd c (by simp)
    ·omega),g1.trans g2⟩)⟩
  rintro σ H2 ⟨m,rfl,hm,hk,g2⟩;refine (zr rfl (zr rfl ⟨p,1 + k,by simp,by omega,g2.2,λtr aa H3 g3 h3 l3 r3=>(zr rfl (zr rfl (zr rfl ⟨p,_,m,rfl,by omega,by omega,by omega,g3.2,λtm ps H4 g4 h4 r4 gd l4=>⟨by show 2<=sizeLine;omega,λb hb=>?_⟩⟩)))⟩));have h3':=g4.aS g3.2 _ _ h3;have tn:=cg.new (o:=HO.tup [V.ref tr,V.ref tm]) hb;refine q b aa tr tm ps _ ((g2.trans (g3.trans g4)).new hb) ⟨xQ,tn _ _ h3',tn _ _ h4,r4.aS tn⟩ (by omega) (by omega) r3 ?_ (by omega);rw [l3];simpa using gd
theorem EO:aF ["_law_purse_here", "_law_book_here", "_law_later", "_law_way", "_law_at"] ["_law_purse_here", "_law_book_here", "_law_later"] (aj qD):=L2.bw
theorem GX (T:Tx K mg a):aW P w K mg base dQ 3 a.Bl a.Cj ["_law_purse_here", "_law_book_here", "_law_later"] (Ky):=by
 have Aa:=wO P w base T;have IE:=HB P w base T;refine T.BL.ok EO (λvs H Q E h=>?_) (λbO A outer s H vs Q E hr h=>?_)
 ·obtain ⟨p,b,j,_,_,_,_,rfl,_⟩:=h;rfl
 ·have nd:=EO.nd;have hu:=hr.units;obtain ⟨p,b,j,aa,tr,tm,ps,rfl,hj,hb,gd,hp,q⟩:=h;refine bP ?_;intro Y
  let B0:Bk Y ((af qD).drop 6):=⟨_,(xU (xu (xq (xm wW (xi (xo rfl) (xi (xo rfl) (xi (xo rfl) (pv 1) xS (λ_ _=>rfl)) (pv 4) (λ_ _=>rfl)) xS (λ_ _=>rfl)) (xi (xh rfl) (xw (xP (xR xS (xR xS xW rfl) rfl))) (xm Qx (xm cS (xZ Aa (hr.mono (by decide)) rfl T.Ab T.Ac T.Ae .nil aq (xP (xR (pv 0) (xR xS xW rfl) rfl))) xS) (pv 2)) (λ_ _=>rfl))))))⟩
  let B1:Bk Y (nb (af qD) 5):=⟨_,(xU (xu (xk (i:=4) nd rfl rfl (xi (xh rfl) (xw (xP (xR (xm cS (pv 4) xS) (xR (xm cS (xm wR (pv 4) (xf (xg rfl) (by rfl) T.aJ PySem.boot_len (xP (xR (xi (xo rfl) (pv 1) xS (λ_ _=>rfl)) xW rfl)))) xS) xW rfl) rfl))) (pv 2) (λ_ _=>rfl)))))⟩
  let B2:Bk Y ((af qD).drop 4):=⟨_,(xU (xl (xk (i:=4) nd rfl rfl (xZ Aa (hr.mono (by decide)) rfl T.Ab T.Ac T.Ae .nil aq (xP (xR (pv 0) (xR (xf (xg rfl) (by rfl) T.aJ PySem.boot_len (xP (xR (xi (xo rfl) (pv 1) xS (λ_ _=>rfl)) xW rfl))) xW rfl) rfl)))) (xl (xx (xp fG (pv 3) xS (av _)) B1.ps xr) B0.bl)))⟩
  let B3:Bk Y ((af qD).drop 3):=⟨_,(xU (xl (xx (xp (I0 hu) (xi (xo rfl) (pv 1) xS (λ_ _=>rfl)) (wS qU) (av _)) (xU (xu (xq (xZ Aa (hr.mono (by decide)) rfl T.Ab T.Ac T.Ae .nil aq (xP (xR (pv 0) (xR xS xW rfl) rfl)))))) xr) B2.bl))⟩
  let B4:Bk Y ((af qD).drop 2):=⟨_,(xU (xl (xx (xp qA (pv 3) xS (av _)) (xU (xu (xq (xZ IE (hr.mono (by decide)) rfl T.Iq T.Iv T.Ix .nil aq (xP (xR (pv 0) xW rfl)))))) xr) B3.bl))⟩
  let B5:Bk Y ((af qD).drop 1):=⟨_,(xU (xl (xx (xp qA (pv 3) xS (av _)) (xU (xu (xq (xi (xh rfl) (xw (xP (xR xS (xR (xm gK xS xS) xW rfl) rfl))) (pv 2) (λ_ _=>rfl))))) xr) B4.bl))⟩
  refine ⟨_,(xU (xl (xk (i:=3) nd rfl rfl (xZ Aa (hr.mono (by decide)) rfl T.Ab T.Ac T.Ae .nil aq (xP (xR (pv 0) (xR xS xW rfl) rfl)))) B5.bl)),?_⟩;have line:=bf;have lU:(2:Int) ^ 200 > 10000:=by decide
  have c9:My 10 9:=⟨by decide,by decide,by decide⟩;have e9:(10:Int) ^ Int.toNat 9=1000000000:=by decide
  have Zg:=gd.len;refine (zr rfl ⟨p,zr rfl ⟨by decide,by decide,hp,λway H1 w0 w1 g1=>?_⟩⟩);refine (zr rfl ⟨rfl,zr rfl (kG (λc=>?_) (λc=>(zr rfl ⟨rfl,zr rfl (kG (λc=>?_) (λc=>?_))⟩)))⟩)
  ·refine (aG rfl rfl ⟨c9,by show 2<=sizeLine;omega,λl hl=>(zr rfl ?_)⟩);rcases hj with rfl | rfl
   ·exact (bL xQ rfl (q _ _ (by omega) (by omega) (g1.new hl)))
   ·exact (bL xQ rfl (q _ _ (by rw [e9];decide) (by rw [e9];decide) (g1.new hl)))
  ·exact (zr rfl ⟨p,rfl,g1.2,λd H2 d0 d1 g2=>q _ _ d0 d1 (g1.trans g2)⟩)
  have ML:=hb.aS (g1.aS hp);refine (zr rfl (bH ML.book rfl ⟨zx _,λu N7=>?_⟩));have Oc:=ML.aS (cg.new (o:=HO.tup []) N7);have g2:=g1.new (o:=HO.tup []) N7;refine ⟨tm,u,zr rfl ⟨rfl,aX.of Oc.meets,aX.of xQ,zr rfl (tF (λc2=>?_) (λc2=>?_))⟩⟩
  ·exact (zr rfl ⟨p,zr rfl ⟨by decide,by decide,g2.2,λd H3 d0 d1 g3=>q _ _ d0 (by omega) (g2.trans g3)⟩⟩)
  have lps:1<=ps.length:=by
   cases ps with
   | nil=>cases c2
   | cons _ _=>simp
  refine (zr rfl (zr rfl (bH Oc.book rfl ⟨tm,zr rfl ⟨.inr (aX.of Oc.meets),p,zr rfl ⟨by rw [zA];omega,by rw [zA];omega,g2.2,λd H3 d0 d1 g3=>?_⟩⟩⟩)));rw [zA] at d1;have Ri:=Oc.aS (g3.aS g2.2);have gg3:=g2.trans g3;refine (zr rfl (aG rfl rfl (zr rfl (kG (λc3=>?_) (λc3=>?_)))))
  ·refine (zr rfl (aG rfl rfl ⟨⟨by decide,by decide⟩,zr rfl (zr rfl (bH Ri.book rfl ⟨tm,zr rfl ⟨.inr (aX.of Ri.meets),aG rfl rfl (aG rfl rfl ⟨⟨by decide,by decide⟩,by show 2<=sizeLine;omega,λl hl=>(zr rfl ?_)⟩)⟩⟩))⟩));have gx:=gg3.new (o:=HO.lst [V.int (d / 2),V.int ((d + ((ps.map λa=>V.ref a.1).length:Int)) / 2)]) hl;have hx:=Ri.aS (cg.new (o:=HO.lst [V.int (d / 2),V.int ((d + ((ps.map λa=>V.ref a.1).length:Int)) / 2)]) hl);obtain ⟨k,ek,hk⟩:∃ k:Nat,bQ [V.int (d / 2),V.int ((d + ((ps.map λa=>V.ref a.1).length:Int)) / 2)] j=some (V.int (k:Int))/\k < ps.length:=by
    rcases hj with rfl | rfl
    ·obtain ⟨k,hk⟩:=zm (show 0<=d / 2 by omega);exact ⟨k,by rw [<-hk];rfl,by omega⟩
    ·obtain ⟨k,hk⟩:=zm (show 0<=(d + ((ps.map λa=>V.ref a.1).length:Int)) / 2 by omega);refine ⟨k,by rw [<-hk];rfl,?_⟩;rw [zA] at hk;omega
   refine (bL xQ ek ?_);refine (zr rfl (bH hx.book rfl (zr rfl (bH hx.meets (wA (v:=V.ref ps[k].1) (by simp [hk])) (bH (hx.rows _ (yC hk)) rfl ⟨by show 2<=sizeLine;omega,λl9 LF=>?_⟩)))));have g9:=gx.new (o:=HO.lst [V.int 1,V.int 0]) LF;refine (zr rfl ⟨p,zr rfl ⟨by decide,by decide,g9.2,λe H9 e0 e1 cX=>(aG rfl rfl ⟨⟨by decide,by decide⟩,zr rfl (aG rfl rfl ?_)⟩)⟩⟩);have h9:=cX.1 l9 _ (gx.2.ne LF) xQ;have tb:=gd.at (yC hk);have bx:(e / 3=0\/e / 3=1):=by omega
   rcases hj with rfl | rfl <;> rcases bx with bx | bx <;> rw [bx]
   ·exact (bL h9 (by decide:bQ [V.int 1,V.int 0] (Builtin.bitXor 0 0)=some (V.int 1)) (aG rfl rfl (q _ _ (by omega) (by omega) (g9.trans cX))))
   ·exact (bL h9 (by decide:bQ [V.int 1,V.int 0] (Builtin.bitXor 1 0)=some (V.int 0)) (aG rfl rfl (q _ _ (by omega) (by omega) (g9.trans cX))))
   ·exact (bL h9 (by decide:bQ [V.int 1,V.int 0] (Builtin.bitXor 0 1)=some (V.int 0)) (aG rfl rfl (q _ _ (by omega) (by omega) (g9.trans cX))))
   ·exact (bL h9 (by decide:bQ [V.int 1,V.int 0] (Builtin.bitXor 1 1)=some (V.int 1)) (aG rfl rfl (q _ _ (by omega) (by omega) (g9.trans cX))))
  ·have gx:=gg3;have hx:=Ri;obtain ⟨k,rfl⟩:=zm d0;have hk:k < ps.length:=by omega
   refine (zr rfl (bH hx.book rfl (zr rfl (bH hx.meets (wA (v:=V.ref ps[k].1) (by simp [hk])) (bH (hx.rows _ (yC hk)) rfl ⟨by show 2<=sizeLine;omega,λl9 LF=>?_⟩)))));have g9:=gx.new (o:=HO.lst [V.int 1,V.int 0]) LF;refine (zr rfl ⟨p,zr rfl ⟨by decide,by decide,g9.2,λe H9 e0 e1 cX=>(aG rfl rfl ⟨⟨by decide,by decide⟩,zr rfl (aG rfl rfl ?_)⟩)⟩⟩);have h9:=cX.1 l9 _ (gx.2.ne LF) xQ;have tb:=gd.at (yC hk);have bx:(e / 3=0\/e / 3=1):=by omega
   rcases hj with rfl | rfl <;> rcases bx with bx | bx <;> rw [bx]
   ·exact (bL h9 (by decide:bQ [V.int 1,V.int 0] (Builtin.bitXor 0 0)=some (V.int 1)) (aG rfl rfl (q _ _ (by omega) (by omega) (g9.trans cX))))
   ·exact (bL h9 (by decide:bQ [V.int 1,V.int 0] (Builtin.bitXor 1 0)=some (V.int 0)) (aG rfl rfl (q _ _ (by omega) (by omega) (g9.trans cX))))
   ·exact (bL h9 (by decide:bQ [V.int 1,V.int 0] (Builtin.bitXor 0 1)=some (V.int 0)) (aG rfl rfl (q _ _ (by omega) (by omega) (g9.trans cX))))
   ·exact (bL h9 (by decide:bQ [V.int 1,V.int 0] (Builtin.bitXor 1 1)=some (V.int 1)) (aG rfl rfl (q _ _ (by omega) (by omega) (g9.trans cX))))
theorem Ez:aF ["_law_thing"] ["_law_thing"] (aj Dx):=L2.bw
theorem Da (T:Tx K mg a):aW P w K mg base dQ 1 a.A8 a.BV ["_law_thing"] (uw):=by
 refine T.Bw.ok Ez (λvs H Q E h=>?_) (λbO A outer s H vs Q E hr h=>?_)
 ·obtain ⟨x,t,rfl,_⟩:=h;rfl
 ·have nd:=Ez.nd;have hu:=hr.units;obtain ⟨x,t,rfl,ht,k⟩:=h;refine ⟨_,(xU (xu (xq (qj (xf (wL) (by rfl) T.aI zh (xP (xR (pv 0) (xR (qI (v:=V.ty "int") rfl T.jq yS rfl) xW rfl) rfl))) (qo (K0 (xf (wL) (by rfl) T.aI zh (xP (xR (pv 0) (xR (qI (v:=V.ty "bool") rfl T.Mr PyProof.Rows.boot_bool rfl) xW rfl) rfl))))))))),?_⟩;refine (zr rfl ⟨x,t, "int", rfl,ht,.inl rfl,zr rfl ?_⟩);rcases gY ht with rfl | rfl | rfl | rfl | rfl | rfl | rfl <;> first | exact aA rfl k | exact ak rfl ⟨_,rfl,x,_, "bool", rfl,ht,.inr (.inl rfl),_,rfl,k⟩
theorem Fu:aF ["thing"] ["thing"] (aj EE):=L2.bw
theorem Fy (T:Tx K mg a):aW P w K mg base dQ 1 a.BF a.CF ["thing"] (uw):=by
 refine T.Cd.ok Fu (λvs H Q E h=>?_) (λbO A outer s H vs Q E hr h=>?_)
 ·obtain ⟨x,t,rfl,_⟩:=h;rfl
 ·have nd:=Fu.nd;have hu:=hr.units;obtain ⟨x,t,rfl,ht,k⟩:=h;refine ⟨_,(xU (xu (xq (qj (xf (wL) (by rfl) T.aI zh (xP (xR (pv 0) (xR (qI (v:=V.ty "int") rfl T.jq yS rfl) xW rfl) rfl))) (qo (K0 (xf (wL) (by rfl) T.aI zh (xP (xR (pv 0) (xR (qI (v:=V.ty "bool") rfl T.Mr PyProof.Rows.boot_bool rfl) xW rfl) rfl))))))))),?_⟩;simp only [LQ,vg,Of,M1,VH,jC,Oe,um,We,rU,KO,KN,uJ,Kg,sd,M8,M5,PU,Sw,JQ,rI,Kf,tC,iI,uh,Sz,oS,Kh,uo,PR,uf,jP,oQ,tB,M6,Na,VG,ug,VT,VS,KH,SN,VM,VN,jQ,M3,M7,VF,jy,oR,nZ,L2.start,zI,zg,zH,zL,zj,zk,List.replicate,zP,zb,zO,List.getElem?_cons_zero,List.getElem?_cons_succ,Option.some.injEq,exists_eq_left',exists_eq_left,exists_and_left,and_assoc,V.int.injEq,V.ty.injEq,V.str.injEq,V.bl.injEq,V.ref.injEq,List.cons.injEq,and_true,true_and,zM,zN];simp only [V.ty.injEq,ht,Option.some.injEq,exists_eq_left',exists_and_left,true_or,or_true,true_and];rcases gY ht with rfl | rfl | rfl | rfl | rfl | rfl | rfl <;> simpa [p9] using k
theorem EN:aF ["thing", "least", "most"] ["thing", "least", "most"] (aj D3):=L2.bw
theorem GW (T:Tx K mg a):aW P w K mg base dQ 2 a.Bj a.Ci ["thing", "least", "most"] (Kv):=by
 have EL:=Fy P w base T;refine T.BK.ok EN (λvs H Q E h=>?_) (λbO A outer s H vs Q E hr h=>?_)
 ·obtain ⟨x,t,lo,hi,rfl,_⟩:=h;rfl
 ·have nd:=EN.nd;have hu:=hr.units;obtain ⟨x,t,lo,hi,rfl,ht,k⟩:=h;refine ⟨_,(xU (xu (xq (qj (xZ EL (hr.mono (by decide)) rfl T.Gm T.Gp T.Gr .nil aq (xP (xR (pv 0) xW rfl))) (qo (pM cR cR (pv 1) (pv 0) (pv 2))))))),?_⟩;simp only [LQ,vg,Of,M1,VH,jC,Oe,um,We,rU,KO,KN,uJ,Kg,sd,M8,M5,PU,Sw,JQ,rI,Kf,tC,iI,uh,Sz,oS,Kh,uo,PR,uf,jP,oQ,tB,M6,Na,VG,ug,VT,VS,KH,SN,VM,VN,jQ,M3,M7,VF,jy,oR,nZ,L2.start,zI,zg,zH,zL,zj,zk,List.replicate,zP,zb,zO,List.getElem?_cons_zero,List.getElem?_cons_succ,Option.some.injEq,exists_eq_left',exists_eq_left,exists_and_left,and_assoc,V.int.injEq,V.ty.injEq,V.str.injEq,V.bl.injEq,V.ref.injEq,List.cons.injEq,and_true,true_and,zM,zN];refine ⟨x,t,rfl,ht,zr rfl ?_⟩;by_cases h:t = "int"
  ·subst h;obtain ⟨i,rfl⟩:=jx ht;simp only [LQ,vg,Of,M1,VH,jC,Oe,um,We,rU,KO,KN,uJ,Kg,sd,M8,M5,PU,Sw,JQ,rI,Kf,tC,iI,uh,Sz,oS,Kh,uo,PR,uf,jP,oQ,tB,M6,Na,VG,ug,VT,VS,KH,SN,VM,VN,jQ,M3,M7,VF,jy,oR,nZ,L2.start,zI,zg,zH,zL,zj,zk,List.replicate,zP,zb,zO,List.getElem?_cons_zero,List.getElem?_cons_succ,Option.some.injEq,exists_eq_left',exists_eq_left,exists_and_left,and_assoc,V.int.injEq,V.ty.injEq,V.str.injEq,V.bl.injEq,V.ref.injEq,List.cons.injEq,and_true,true_and,zM,zN];by_cases h1:lo<=i
   ·simpa [h1,mD] using k
   ·simpa [h1,mD] using k
  ·rw [Ls ht h] at k;simpa [h] using k
theorem Fv:aF ["thing"] ["thing"] (aj EF):=L2.bw
theorem D5 (T:Tx K mg a):aW P w K mg base dQ 2 a.BG a.CG ["thing"] (Nn):=by
 have EL:=Fy P w base T;refine T.Ce.ok Fv (λvs H Q E h=>?_) (λbO A outer s H vs Q E hr h=>?_)
 ·obtain ⟨x,t,rfl,_⟩:=h;rfl
 ·have nd:=Fv.nd;have hu:=hr.units;obtain ⟨x,t,rfl,ht,k⟩:=h;refine ⟨_,(xU (xu (xq (qj (xZ EL (hr.mono (by decide)) rfl T.Gm T.Gp T.Gr .nil aq (xP (xR (pv 0) xW rfl))) (qo (wf pQ (pv 0) xS (av _))))))),?_⟩;refine (zr rfl ⟨x,t,rfl,ht,zr rfl ?_⟩);by_cases h:t = "int"
  ·subst h;obtain ⟨i,rfl⟩:=jx ht;exact ak rfl (zr rfl (aG rfl rfl k))
  ·refine aA (by simpa using h) ?_;have e:fJ x=false:=by
    cases x <;> first | rfl | exact absurd (Option.some.inj ht).symm h
   rwa [e] at k
theorem Ex:aF ["thing", "size"] ["thing", "size"] (aj CY):=L2.bw
theorem Gy (T:Tx K mg a):aW P w K mg base dQ 3 a.AY a.BT ["thing", "size"] (vQ):=by
 have CK:=D5 P w base T;refine T.Bu.ok Ex (λvs H Q E h=>?_) (λbO A outer s H vs Q E hr h=>?_)
 ·obtain ⟨_,_,rfl,_⟩:=h;rfl
 ·have nd:=Ex.nd;have hu:=hr.units;obtain ⟨v,n,rfl,dt,ad8,q⟩:=h;refine ⟨_,(xU (xu (xq (qj (xf (wL) (by rfl) T.aI zh (xP (xR (pv 0) (xR (qI (v:=V.ty "list") rfl T.cK yD rfl) xW rfl) rfl))) (qj (wf qA (xf (xg rfl) (by rfl) T.aJ PySem.boot_len (xP (xR (pv 0) xW rfl))) (pv 1) (av _)) (qo (xf (qp rfl rfl) (by rfl) T.iP yO (xP (xR (wc (own:=["number"]) (caps:=[]) rfl (show aD ["number"] [] ["thing", "size"] (aj CY) _ from L2.b8) (wZ rfl (pv 0)) (λ_ _ _ _=>(xX (i:=0) (show List.Nodup (["number"]:List Str) from by decide +kernel) rfl rfl)) (λ_ _ _ _=>wP) (λ_ _ _ _=>(xZ CK (hr.mono (by decide)) rfl T.Dz T.DC T.DF .nil aq (xP (xR (pv 0) xW rfl))))) xW rfl))))))))),?_⟩;have line:=bf;rcases dt.way with ⟨l,xs,rfl,kl,e1,_,ex⟩ | ⟨l,xs,rfl,kl,e1,_,ex⟩ | ⟨t,ht,n1,_,e1,_⟩
  ·have cv:aR H n (.ref l)=(decide (xs.length=n) && xs.all fJ):=by simp only [aR,e1]
   refine (zr rfl ⟨_, "list", "list", rfl,wt kl,.inr (.inr (.inl rfl)),zr rfl (ak rfl (zr rfl ⟨l,zr rfl ⟨.inl (aB.of kl),zr rfl ⟨rfl,zr rfl ?_⟩⟩⟩))⟩);by_cases e:xs.length=n
   ·refine ak (decide_eq_true (by rw [e])) ?_;refine (zr rfl ⟨l,rfl,⟨_,aB.of kl⟩,?_⟩);refine (let W3:IC:=λi τ acc H5=>(∃ t0,τ=[t0])/\acc=((xs.take i).map fJ).map V.bl/\ay H H5;wT (K:=K) (a:=l) (xs:=xs) W3 ⟨⟨_,rfl⟩,rfl,ay.refl _⟩ (by omega) ?_ ?_ ?_)
    ·rintro i τ acc H5 ⟨_,rfl,sm⟩;refine ⟨?_,aB.of (sm _ _ kl)⟩;rw [zA,zA,zR];omega
    ·rintro i v τ acc H5 C hv ⟨⟨t0,rfl⟩,rfl,sm⟩ hC;obtain ⟨ty,MH⟩:=ex v (zC hv);refine (zr rfl ⟨v,ty,rfl,qB sm MH,?_⟩);refine hC _ _ _ ⟨⟨_,rfl⟩,?_,sm⟩;rw [xv hv,zB,zB];rfl
    ·rintro τ acc H5 ⟨⟨t0,rfl⟩,rfl,sm⟩ lc kJ;refine ⟨lc,zr rfl ⟨aB.of xQ,?_⟩⟩;have z:=q _ (sm.trans (xT (o:=HO.lst (((xs.take xs.length).map fJ).map V.bl)) kJ));rw [cv,decide_eq_true e,zu] at z;rw [zd,ym] at *;exact z
   ·refine aA (decide_eq_false (λz=>e (Int.ofNat.inj (V.int.inj z)))) ?_;have z:=q _ (ay.refl _);rwa [cv,decide_eq_false e,yR] at z
  ·refine (zr rfl ⟨_, "tuple", "list", rfl,wz kl,.inr (.inr (.inl rfl)),zr rfl (aA rfl ?_)⟩);have z:=q _ (ay.refl _);rwa [show aR H n (.ref l)=false by simp only [aR,e1]] at z
  ·refine (zr rfl ⟨_,t, "list", rfl,ht,.inr (.inr (.inl rfl)),zr rfl (aA n1 ?_)⟩);have z:=q _ (ay.refl _);rwa [show aR H n v=false by simp only [aR,e1]] at z
theorem DR:aF ["loads", "wants", "thing", "there", "back", "begun", "come"] ["loads", "wants", "thing"] (aj qN):=L2.bw
theorem FM (T:Tx K mg a):aW P w K mg base dQ 4 a.AA a.Bh ["loads", "wants", "thing"] (Nf):=by
 have CK:=D5 P w base T;have Fc:=Gy P w base T;refine T.AQ.ok DR (λvs H Q E h=>?_) (λbO A outer s H vs Q E hr h=>?_)
 ·obtain ⟨_,_,_,_,_,rfl,_⟩:=h;rfl
 ·have nd:=DR.nd;have hu:=hr.units;obtain ⟨ll,lw,ls,ws,v,rfl,hl,hw,bD,bX,dt,q⟩:=h;refine bP ?_;intro Y
  let B0:Bk Y ((af qN).drop 3):=⟨_,(xU (xu (xq (qj (xZ Fc (hr.mono (by decide)) rfl T.EZ T.E4 T.E7 .nil aq (xP (xR (pv 5) (xR (xf (xg rfl) (by rfl) T.aJ PySem.boot_len (xP (xR (pv 0) xW rfl))) xW rfl) rfl))) (qo (xZ Fc (hr.mono (by decide)) rfl T.EZ T.E4 T.E7 .nil aq (xP (xR (pv 6) (xR (xf (xg rfl) (by rfl) T.aJ PySem.boot_len (xP (xR (pv 1) xW rfl))) xW rfl) rfl))))))))⟩
  let B1:Bk Y ((af qN).drop 2):=⟨_,(xU (xl (xx (@PW.pt _ _ _ (qM (wN (wQ (xZ CK (hr.mono (by decide)) rfl T.Dz T.DC T.DF .nil aq (xP (xR (pv 3) xW rfl))))) (wx (wN (wQ (xZ CK (hr.mono (by decide)) rfl T.Dz T.DC T.DF .nil aq (xP (xR (pv 4) xW rfl)))))))) (xU (xu (xq qL))) xr) B0.bl))⟩
  let B2:Bk Y ((af qN).drop 1):=⟨_,(xU (xl (wG (pv 2) (wE (n:=4) rfl rfl (xY (xX (i:=3) nd rfl rfl) (xY (xX (i:=4) nd rfl rfl) (xY (xX (i:=5) nd rfl rfl) (xY (xX (i:=6) nd rfl rfl) wD)))))) B1.bl))⟩
  refine ⟨_,(xU (xl (xx (@PW.pt _ _ _ (qM (wN (wQ (xf (wL) (by rfl) T.aI zh (xP (xR (pv 2) (xR (qI (v:=V.ty "tuple") rfl T.bI zy rfl) xW rfl) rfl))))) (wx (xp gu (xf (xg rfl) (by rfl) T.aJ PySem.boot_len (xP (xR (pv 2) xW rfl))) xS (av _))))) (xU (xu (xq qL))) xr) B2.bl)),?_⟩;have line:=bf;have nq:∀ {H'},bN H ls.length ws.length v=false->ay H H'->Q (.bl false) H':=λ{H'} e s=>by have z:=q H' s;rwa [e] at z
  rcases dt.way with ⟨l,xs,rfl,kl,_,e1,ex⟩ | ⟨l,xs,rfl,kl,_,e1,ex⟩ | ⟨t,ht,_,n1,_,e1⟩
  ·refine (zr rfl ⟨_, "list", "tuple", rfl,wt kl,.inr (.inr (.inr rfl)),zr rfl (ak rfl ?_)⟩);exact nq (by simp only [bN,e1]) (ay.refl _)
  rotate_left
  ·exact (zr rfl ⟨_,t, "tuple", rfl,ht,.inr (.inr (.inr rfl)),zr rfl (ak (by rw [n1];rfl) (nq (by simp only [bN,e1]) (ay.refl _)))⟩)
  refine (zr rfl ⟨_, "tuple", "tuple", rfl,wz kl,.inr (.inr (.inr rfl)),zr rfl (aA rfl (zr rfl ⟨l,zr rfl ⟨.inr (aX.of kl),rfl,zr rfl ?_⟩⟩))⟩);by_cases e4:xs.length=4
  rotate_left
  ·refine ak ?_ (nq ?_ (ay.refl _))
   ·simp;omega
   ·unfold bN;rw [e1];split
    ·rename_i e;cases e;exact (e4 rfl).elim
    ·rfl
  obtain ⟨x,y,z,w0,rfl⟩:=LS e4;have rv:bN H ls.length ws.length (.ref l)=((fJ x && fJ y) && (aR H ls.length z && aR H ws.length w0)):=by simp only [bN,e1]
  obtain ⟨tx,hx⟩:=(ex x (by simp)).ty;obtain ⟨ty,hy⟩:=(ex y (by simp)).ty;have dz:=ex z (by simp);have dw:=ex w0 (by simp);refine aA rfl (zr rfl (RT kl ?_));refine (zr rfl ⟨_,tx,rfl,hx,zr rfl ?_⟩);cases c1:fJ x with
  | false=>exact ak rfl (ak rfl (nq (by rw [rv,c1];rfl) (ay.refl _)))
  | true=>
  refine aA rfl (zr rfl ⟨_,ty,rfl,hy,zr rfl ?_⟩);cases c2:fJ y with
  | false=>exact ak rfl (nq (by rw [rv,c1,c2];rfl) (ay.refl _))
  | true=>
  rw [c1,c2,zu,zu] at rv;refine aA rfl (zr rfl (zr rfl ⟨ll,zr rfl ⟨.inl (aB.of hl.l),z,ls.length,by rw [zA];rfl,dz,by omega,λH1 s1=>(zr rfl ?_)⟩⟩));cases c3:aR H ls.length z with
  | false=>exact aA rfl (nq (by rw [rv,c3];rfl) s1)
  | true=>
  refine ak rfl (zr rfl (zr rfl ⟨lw,zr rfl ⟨.inl (aB.of (s1 _ _ hw.l)),w0,ws.length,by rw [zA];rfl,dw.same s1,by omega,λH2 s2=>?_⟩⟩));have z:=q _ (s1.trans s2);rw [rv,c3,zu] at z;rwa [show aR H1 ws.length w0=aR H ws.length w0 by unfold aR;rw [dw.dM s1]]
theorem CN:aF ["loads", "wants", "thing", "load", "want", "many"] ["loads", "wants", "thing"] (aj wu):=L2.bw
theorem D6 (T:Tx K mg a):aW P w K mg base dQ 3 a.Ag a.Ap ["loads", "wants", "thing"] (Nc):=by
 have FJ:=GW P w base T;have CK:=D5 P w base T;refine T.Ai.ok CN (λvs H Q E h=>?_) (λbO A outer s H vs Q E hr h=>?_)
 ·obtain ⟨_,_,_,_,_,rfl,_⟩:=h;rfl
 ·have nd:=CN.nd;have hu:=hr.units;obtain ⟨ll,lw,ls,ws,v,rfl,hl,hw,dt,q⟩:=h;refine bP ?_;intro Y
  let B0:Bk Y ((af wu).drop 3):=⟨_,(xU (xu (xq (qj (xZ CK (hr.mono (by decide)) rfl T.Dz T.DC T.DF .nil aq (xP (xR (pv 5) xW rfl))) (qo (wf fG (pv 5) xS (av _)))))))⟩
  let B1:Bk Y ((af wu).drop 2):=⟨_,(xU (xl (xx (@PW.pt _ _ _ (qM (wN (wQ (xZ FJ (hr.mono (by decide)) rfl T.FA T.FD T.FG .nil aq (xP (xR (pv 3) (xR xS (xR (xm wW (xf (xg rfl) (by rfl) T.aJ PySem.boot_len (xP (xR (pv 0) xW rfl))) xS) xW rfl) rfl) rfl))))) (wx (wN (wQ (xZ FJ (hr.mono (by decide)) rfl T.FA T.FD T.FG .nil aq (xP (xR (pv 4) (xR xS (xR (xm wW (xf (xg rfl) (by rfl) T.aJ PySem.boot_len (xP (xR (pv 1) xW rfl))) xS) xW rfl) rfl) rfl)))))))) (xU (xu (xq qL))) xr) B0.bl))⟩
  refine ⟨_,(xU (xl (xx (@PW.pt _ _ _ (qM (wN (wQ (xf (wL) (by rfl) T.aI zh (xP (xR (pv 2) (xR (qI (v:=V.ty "tuple") rfl T.bI zy rfl) xW rfl) rfl))))) (wx (xp gu (xf (xg rfl) (by rfl) T.aJ PySem.boot_len (xP (xR (pv 2) xW rfl))) xS (av _))))) (xU (xu (xq qL))) xr) (xl (wG (pv 2) (wE (n:=3) rfl rfl (xY (xX (i:=3) nd rfl rfl) (xY (xX (i:=4) nd rfl rfl) (xY (xX (i:=5) nd rfl rfl) wD))))) B1.bl))),?_⟩;have line:=bf;have nq:cj H ls.length ws.length v=false->Q (.bl false) H:=λe=>by rwa [e] at q
  rcases dt.way with ⟨l,xs,rfl,kl,_,e1,ex⟩ | ⟨l,xs,rfl,kl,_,e1,ex⟩ | ⟨t,ht,_,n1,_,e1⟩
  ·exact (zr rfl ⟨_, "list", "tuple", rfl,wt kl,.inr (.inr (.inr rfl)),zr rfl (ak rfl (nq (by simp only [cj,e1])))⟩)
  rotate_left
  ·exact (zr rfl ⟨_,t, "tuple", rfl,ht,.inr (.inr (.inr rfl)),zr rfl (ak (by rw [n1];rfl) (nq (by simp only [cj,e1])))⟩)
  refine (zr rfl ⟨_, "tuple", "tuple", rfl,wz kl,.inr (.inr (.inr rfl)),zr rfl (aA rfl (zr rfl ⟨l,zr rfl ⟨.inr (aX.of kl),rfl,zr rfl ?_⟩⟩))⟩);by_cases e3:xs.length=3
  rotate_left
  ·refine ak ?_ (nq ?_)
   ·simp;omega
   ·unfold cj;rw [e1];split
    ·rename_i e;cases e;exact (e3 rfl).elim
    ·rfl
  obtain ⟨x,y,z,rfl⟩:=ue e3;have rv:cj H ls.length ws.length (.ref l)=((mD 0 ((ls.length:Int) - 1) x && mD 0 ((ws.length:Int) - 1) y) && (fJ z && posB z)):=by simp only [cj,e1]
  obtain ⟨tx,hx⟩:=(ex x (by simp)).ty;obtain ⟨ty,hy⟩:=(ex y (by simp)).ty;obtain ⟨tz,hz⟩:=(ex z (by simp)).ty;refine aA rfl (zr rfl (MW kl ?_));refine (zr rfl (zr rfl ⟨ll,zr rfl ⟨.inl (aB.of hl.l),aG rfl rfl ⟨_,tx,lV rfl ⟨hx,zr rfl ?_⟩⟩⟩⟩));rw [zA];cases c1:mD 0 ((ls.length:Int) - 1) x with
  | false=>exact ak rfl (ak rfl (nq (by rw [rv,c1];rfl)))
  | true=>
  refine aA rfl (zr rfl (zr rfl ⟨lw,zr rfl ⟨.inl (aB.of hw.l),aG rfl rfl ⟨_,ty,lV rfl ⟨hy,zr rfl ?_⟩⟩⟩⟩));rw [zA];cases c2:mD 0 ((ws.length:Int) - 1) y with
  | false=>exact ak rfl (nq (by rw [rv,c1,c2];rfl))
  | true=>
  rw [c1,c2,zu,zu] at rv;refine aA rfl (zr rfl ⟨_,tz,rfl,hz,zr rfl ?_⟩);cases z with
  | int m=>
   cases c3:fJ (.int m) with
   | false=>exact aA rfl (nq (by rw [rv,c3];rfl))
   | true=>
    refine ak rfl (zr rfl (aG rfl rfl ?_));rw [rv,c3,zu] at q;exact q
  | _=>exact aA rfl (nq (by rw [rv];rfl))
theorem Dk:aF ["book", "loads", "wants", "thing", "rows", "straight"] ["book", "loads", "wants", "thing"] (aj wk):=L2.bw
theorem Fe (T:Tx K mg a):aW P w K mg base dQ 5 a.Aq a.AR ["book", "loads", "wants", "thing"] (Nk):=by
 have Gw:=FM P w base T;have Ev:=D6 P w base T;refine T.AC.ok Dk (λvs H Q E h=>?_) (λbO A outer s H vs Q E hr h=>?_)
 ·obtain ⟨_,_,_,_,_,_,_,_,_,_,rfl,_⟩:=h;rfl
 ·have nd:=Dk.nd;have hu:=hr.units;obtain ⟨b,ll,lw,v,aa,tr,tm,ps,ls,ws,rfl,hb,p60,hl,hw,bD,bX,dt,eB,q⟩:=h;refine bP ?_;intro Y
  let B0:Bk Y ((af wk).drop 4):=⟨_,(xU (xu (xq (xf (qp rfl rfl) (by rfl) T.iP yO (xP (xR (wc (own:=["part"]) (caps:=[1,2]) rfl (show aD ["part"] [1,2] ["book", "loads", "wants", "thing", "rows", "straight"] (aj wk) _ from L2.b8) (wZ rfl (pv 5)) (λ_ _ _ _=>(xX (i:=0) (show List.Nodup (["part", "loads", "wants"]:List Str) from by decide +kernel) rfl rfl)) (λ_ _ _ _=>wP) (λ_ _ _ _=>(xZ Ev (hr.mono (by decide)) rfl T.Em T.Eo T.Er .nil aq (xP (xR (pv 1) (xR (pv 2) (xR (pv 0) xW rfl) rfl) rfl))))) xW rfl))))))⟩
  let B1:Bk Y ((af wk).drop 3):=⟨_,(xU (xl (xx (wN (wQ (xf (qp rfl rfl) (by rfl) T.iP yO (xP (xR (wc (own:=["row"]) (caps:=[1,2]) rfl (show aD ["row"] [1,2] ["book", "loads", "wants", "thing", "rows", "straight"] (aj wk) _ from L2.b8) (wZ rfl (pv 4)) (λ_ _ _ _=>(xX (i:=0) (show List.Nodup (["row", "loads", "wants"]:List Str) from by decide +kernel) rfl rfl)) (λ_ _ _ _=>wP) (λ_ _ _ _=>(xZ Gw (hr.mono (by decide)) rfl T.Gn T.Gq T.Gs .nil aq (xP (xR (pv 1) (xR (pv 2) (xR (pv 0) xW rfl) rfl) rfl))))) xW rfl))))) (xU (xu (xq qL))) xr) B0.bl))⟩
  let B2:Bk Y ((af wk).drop 2):=⟨_,(xU (xl (xx (@PW.pt _ _ _ (qM (wN (wQ (xf (wL) (by rfl) T.aI zh (xP (xR (pv 4) (xR (qI (v:=V.ty "list") rfl T.cK yD rfl) xW rfl) rfl))))) (qM (xp gu (xf (xg rfl) (by rfl) T.aJ PySem.boot_len (xP (xR (pv 4) xW rfl))) (xf (xg rfl) (by rfl) T.aJ PySem.boot_len (xP (xR (xi (xo rfl) (pv 0) xS (λ_ _=>rfl)) xW rfl))) (av _)) (wx (wN (wQ (xf (wL) (by rfl) T.aI zh (xP (xR (pv 5) (xR (qI (v:=V.ty "list") rfl T.cK yD rfl) xW rfl) rfl))))))))) (xU (xu (xq qL))) xr) B1.bl))⟩
  refine ⟨_,(xU (xl (xx (@PW.pt _ _ _ (qM (wN (wQ (xf (wL) (by rfl) T.aI zh (xP (xR (pv 3) (xR (qI (v:=V.ty "tuple") rfl T.bI zy rfl) xW rfl) rfl))))) (wx (xp gu (xf (xg rfl) (by rfl) T.aJ PySem.boot_len (xP (xR (pv 3) xW rfl))) xS (av _))))) (xU (xu (xq qL))) xr) (xl (wG (pv 3) (wE (n:=2) rfl rfl (xY (xX (i:=4) nd rfl rfl) (xY (xX (i:=5) nd rfl rfl) wD)))) B2.bl))),?_⟩;have line:=bf;have nq:∀ {H'},ck H ps.length ls.length ws.length v=false->ay H H'->Q (.bl false) H':=λ{H'} e s=>by have z:=q H' s;rwa [e] at z
  rcases dt.way with ⟨l,xs,rfl,kl,_,e1,ex⟩ | ⟨l,xs,rfl,kl,_,e1,ex⟩ | ⟨t,ht,_,n1,_,e1⟩
  ·exact (zr rfl ⟨_, "list", "tuple", rfl,wt kl,.inr (.inr (.inr rfl)),zr rfl (ak rfl (nq (by simp only [ck,e1]) (ay.refl _)))⟩)
  rotate_left
  ·exact (zr rfl ⟨_,t, "tuple", rfl,ht,.inr (.inr (.inr rfl)),zr rfl (ak (by rw [n1];rfl) (nq (by simp only [ck,e1]) (ay.refl _)))⟩)
  refine (zr rfl ⟨_, "tuple", "tuple", rfl,wz kl,.inr (.inr (.inr rfl)),zr rfl (aA rfl (zr rfl ⟨l,zr rfl ⟨.inr (aX.of kl),rfl,zr rfl ?_⟩⟩))⟩);by_cases e2:xs.length=2
  rotate_left
  ·refine ak ?_ (nq ?_ (ay.refl _))
   ·simp;omega
   ·unfold ck;rw [e1];split
    ·rename_i e;cases e;exact (e2 rfl).elim
    ·rfl
  obtain ⟨x,y,rfl⟩:=OG e2;have pv:ck H ps.length ls.length ws.length (.ref l)=((match bT H x with | some xs=>decide (xs.length=ps.length) && xs.all (bN H ls.length ws.length) | none=>false) && (match bT H y with | some ys=>ys.all (cj H ls.length ws.length) | none=>false)):=by simp only [ck,e1];try rfl
  have dx:=ex x (by simp);have dy:=ex y (by simp);refine aA rfl (zr rfl (JN kl ?_));rcases dx.way with ⟨lr,us,rfl,kr,e3,_,eu⟩ | ⟨lr,us,rfl,kr,e3,_,eu⟩ | ⟨t,ht,n1,_,e3,_⟩
  rotate_left
  ·exact (zr rfl ⟨_, "tuple", "list", rfl,wz kr,.inr (.inr (.inl rfl)),zr rfl (ak rfl (ak rfl (nq (by rw [pv,e3];rfl) (ay.refl _))))⟩)
  ·exact (zr rfl ⟨_,t, "list", rfl,ht,.inr (.inr (.inl rfl)),zr rfl (ak (by rw [n1];rfl) (ak rfl (nq (by rw [pv,e3];rfl) (ay.refl _))))⟩)
  rw [e3] at pv;dsimp only at pv;refine (zr rfl ⟨_, "list", "list", rfl,wt kr,.inr (.inr (.inl rfl)),zr rfl (aA rfl (zr rfl ⟨lr,zr rfl ⟨.inl (aB.of kr),zr rfl (bH hb.book rfl ⟨tm,zr rfl ⟨.inr (aX.of hb.meets),rfl,zr rfl ?_⟩⟩)⟩⟩))⟩);by_cases c1:us.length=ps.length
  rotate_left
  ·refine ak ?_ (ak rfl (nq (by rw [pv,decide_eq_false c1];rfl) (ay.refl _)));rw [zA];simp;omega
  rw [decide_eq_true c1,zu] at pv;refine aA (by rw [zA];simp;omega) ?_;rcases dy.way with ⟨lt,ys,rfl,kt,e4,_,ey⟩ | ⟨lt,ys,rfl,kt,e4,_,ey⟩ | ⟨t,ht,n1,_,e4,_⟩
  rotate_left
  ·exact (zr rfl ⟨_, "tuple", "list", rfl,wz kt,.inr (.inr (.inl rfl)),zr rfl (ak rfl (nq (by rw [pv,e4,yU]) (ay.refl _)))⟩)
  ·exact (zr rfl ⟨_,t, "list", rfl,ht,.inr (.inr (.inl rfl)),zr rfl (ak (by rw [n1];rfl) (nq (by rw [pv,e4,yU]) (ay.refl _)))⟩)
  have ly:=eB _ _ ys e1 e4;rw [e4] at pv;dsimp only at pv;refine (zr rfl ⟨_, "list", "list", rfl,wt kt,.inr (.inr (.inl rfl)),zr rfl (aA rfl ?_)⟩);refine (zr rfl ⟨lr,rfl,⟨_,aB.of kr⟩,?_⟩);refine (let W4:IC:=λi τ acc H5=>(∃ t0,τ=[t0,some (.ref ll),some (.ref lw)])/\acc=((us.take i).map (bN H ls.length ws.length)).map V.bl/\ay H H5;wT (K:=K) (a:=lr) (xs:=us) W4 ⟨⟨_,rfl⟩,rfl,ay.refl _⟩ (by omega) ?_ ?_ ?_)
  ·rintro i τ acc H5 ⟨_,rfl,sm⟩;refine ⟨?_,aB.of (sm _ _ kr)⟩;rw [zA,zA,zR];omega
  ·rintro i v τ acc H5 C hv ⟨⟨t0,rfl⟩,rfl,sm⟩ hC;have dv:=eu v (zC hv);refine (zr rfl (zr rfl (zr rfl ⟨ll,lw,ls,ws,v,rfl,hl.same sm,hw.same sm,bD,bX,dv.same sm,λH6 s6=>?_⟩)));rw [jY sm dv];refine hC _ _ _ ⟨⟨_,rfl⟩,?_,sm.trans s6⟩;rw [xv hv,zB,zB];rfl
  rintro τ acc H5 ⟨⟨t0,rfl⟩,rfl,sm⟩ lc kJ;have s1:=sm.trans (xT (o:=HO.lst (((us.take us.length).map (bN H ls.length ws.length)).map V.bl)) kJ);refine ⟨lc,zr rfl ⟨aB.of xQ,zr rfl ?_⟩⟩;rw [zd,ym] at *;generalize upd H5 lc _=H6 at s1 ⊢;cases c2:us.all (id ∘ bN H ls.length ws.length) with
  | false=>exact ak rfl (nq (by rw [pv,show us.all (bN H ls.length ws.length)=false from c2];rfl) s1)
  | true=>
  rw [show us.all (bN H ls.length ws.length)=true from c2,zu] at pv;refine aA rfl (zr rfl ⟨lt,rfl,⟨_,aB.of (s1 _ _ kt)⟩,?_⟩);refine (let W5:IC:=λi τ acc H5=>(∃ t0,τ=[t0,some (.ref ll),some (.ref lw)])/\acc=((ys.take i).map (cj H ls.length ws.length)).map V.bl/\ay H H5;wT (K:=K) (a:=lt) (xs:=ys) W5 ⟨⟨_,rfl⟩,rfl,s1⟩ (by omega) ?_ ?_ ?_)
  ·rintro i τ acc H5 ⟨_,rfl,sm⟩;refine ⟨?_,aB.of (sm _ _ kt)⟩;rw [zA,zA,zR];omega
  ·rintro i v τ acc H5 C hv ⟨⟨t0,rfl⟩,rfl,sm⟩ hC;have dv:=(ey v (zC hv)).le;refine (zr rfl (zr rfl (zr rfl ⟨ll,lw,ls,ws,v,rfl,hl.same sm,hw.same sm,dv.same sm,?_⟩)));rw [jT sm dv];refine hC _ _ _ ⟨⟨_,rfl⟩,?_,sm⟩;rw [xv hv,zB,zB];rfl
  rintro τ acc H5 ⟨⟨t0,rfl⟩,rfl,sm⟩ lc kJ;refine ⟨lc,zr rfl ⟨aB.of xQ,?_⟩⟩;have z:=q _ (sm.trans (xT (o:=HO.lst (((ys.take ys.length).map (cj H ls.length ws.length)).map V.bl)) kJ));rw [pv] at z;rw [zd,ym] at *;exact z
theorem DX:aF ["load", "want"] ["load", "want"] (aj C9):=L2.bw
theorem Gh (T:Tx K mg a):aW P w K mg base dQ 1 a.AI a.BB ["load", "want"] (oY):=by
 refine T.Bd.ok DX (λvs H Q E h=>?_) (λbO A outer s H vs Q E hr h=>?_)
 ·obtain ⟨_,_,_,_,rfl,_⟩:=h;rfl
 ·have nd:=DX.nd;have hu:=hr.units;obtain ⟨a,b,l,w,rfl,ha,hb,q⟩:=h;refine ⟨_,(xU (xu (xq (qj (wf qA (xi (xo rfl) (pv 0) xS (λ_ _=>rfl)) (xi (xo rfl) (pv 1) xS (λ_ _=>rfl)) (av _)) (qo (wf cR (xi (xo rfl) (pv 0) xS (λ_ _=>rfl)) (xi (xo rfl) (pv 1) xS (λ_ _=>rfl)) (av _))))))),?_⟩;refine (zr rfl (bH ha rfl (zr rfl (bH hb rfl ⟨rfl,zr rfl ?_⟩))));by_cases c:l.w=w.w
  ·refine ak (decide_eq_true (by rw [c])) (zr rfl (bH ha rfl (zr rfl (bH hb rfl (aG rfl rfl ?_)))));rwa [show ia l w=decide (l.t<=w.t) by unfold ia;rw [decide_eq_true c];rfl] at q
  ·refine aA (decide_eq_false (λz=>c (V.int.inj z))) ?_;rwa [show ia l w=false by unfold ia;rw [decide_eq_false c];rfl] at q
theorem C0:aF ["loads", "wants", "straight", "pairs"] ["loads", "wants", "straight"] (aj wg):=L2.bw
theorem EG (T:Tx K mg a):aW P w K mg base dQ 2 a.Aj a.AB ["loads", "wants", "straight"] (P5):=by
 have GQ:=Gh P w base T;refine T.An.ok C0 (λvs H Q E h=>?_) (λbO A outer s H vs Q E hr h=>?_)
 ·obtain ⟨_,_,_,_,_,_,rfl,_⟩:=h;rfl
 ·have nd:=C0.nd;have hu:=hr.units;obtain ⟨ll,lw,lt,ls,ws,ts,rfl,hl,hw,ht,he,PX,ok,q⟩:=h;refine bP ?_;intro Y
  let B0:Bk Y ((af wg).drop 2):=⟨_,(xU (xu (xq (xf (qp rfl rfl) (by rfl) T.iP yO (xP (xR (wc (own:=["load", "want"]) (caps:=[0,1]) rfl (show aD ["load", "want"] [0,1] ["loads", "wants", "straight", "pairs"] (aj wg) _ from L2.b8) (wZ rfl (pv 3)) (λ_ _ _ _=>(wE (n:=2) rfl rfl (xY (xX (i:=0) (show List.Nodup (["load", "want", "loads", "wants"]:List Str) from by decide +kernel) rfl rfl) (xY (xX (i:=1) (show List.Nodup (["load", "want", "loads", "wants"]:List Str) from by decide +kernel) rfl rfl) wD)))) (λ_ _ _ _=>wP) (λ_ _ _ _=>(xZ GQ (hr.mono (by decide)) rfl T.GD T.GG T.GJ .nil aq (xP (xR (xi (xh rfl) (pv 2) (pv 0) (λ_ _=>rfl)) (xR (xi (xh rfl) (pv 3) (pv 1) (λ_ _=>rfl)) xW rfl) rfl))))) xW rfl))))))⟩
  let B1:Bk Y ((af wg).drop 1):=⟨_,(xU (xl (xx (xp gu (xf (JF) (by rfl) T.aJ PySem.boot_len (xP (xR (wK (rJ rfl hu) (by rfl) T.Vl PyProof.Rows.boot_set (xP (xR (pv 3) xW rfl))) xW rfl))) (xf (xg rfl) (by rfl) T.aJ PySem.boot_len (xP (xR (pv 3) xW rfl))) (av _)) (xU (xu (xq qL))) xr) B0.bl))⟩
  refine ⟨_,(xU (xl (cG (ix:=3) nd rfl rfl (own:=["load", "want", "many"]) (caps:=[]) rfl (show aD ["load", "want", "many"] [] ["loads", "wants", "straight", "pairs"] (aj wg) _ from L2.b8) (wZ rfl (pv 2)) (λ_ _ _ _=>(wE (n:=3) rfl rfl (xY (xX (i:=0) (show List.Nodup (["load", "want", "many"]:List Str) from by decide +kernel) rfl rfl) (xY (xX (i:=1) (show List.Nodup (["load", "want", "many"]:List Str) from by decide +kernel) rfl rfl) (xY (xX (i:=2) (show List.Nodup (["load", "want", "many"]:List Str) from by decide +kernel) rfl rfl) wD))))) (λ_ _ _ _=>wP) (λ_ _ _ _=>(wS (xP (xR (pv 0) (xR (pv 1) xW rfl) rfl))))) B1.bl)),?_⟩;have line:=bf;refine (zr rfl ⟨lt,rfl,⟨_,aB.of ht⟩,?_⟩);refine (let W6:IC:=λi τ acc H5=>∃ qs:List (Addr×List Int),(∃ t0 t1 t2,τ=[t0,t1,t2])/\acc=qs.map (λx=>V.ref x.1)/\(∀ x∈qs,H5 x.1=some (.tup (x.2.map V.int)))/\qs.map (·.2)=(ts.take i).map (λx=>[x.2.k,x.2.j])/\ay H H5;wT (K:=K) (a:=lt) (xs:=ts.map λx=>V.ref x.1) W6 ⟨[],⟨_,_,_,rfl⟩,rfl,nofun,rfl,ay.refl _⟩ (by rw [zA];omega) ?_ ?_ ?_)
  ·rintro i τ acc H5 ⟨qs,_,rfl,_,eq,sm⟩;refine ⟨?_,aB.of (sm _ _ ht)⟩;have:=congrArg List.length eq;rw [zA,zA,zR] at this;rw [zA];omega
  ·rintro i v τ acc H5 C hv ⟨qs,⟨t0,t1,t2,rfl⟩,rfl,kq,eq,sm⟩ hC;obtain ⟨x,hx,rfl⟩:=wF hv;refine (MW (sm _ _ (he x (zC hx))) ?_);refine (zr rfl (zr rfl ⟨by show 2<=_;omega,λu hu=>?_⟩));have su:=xT (o:=HO.tup [V.int x.2.k,V.int x.2.j]) hu;refine hC _ _ _ ⟨qs++[(u,[x.2.k,x.2.j])],⟨_,_,_,rfl⟩,by rw [zB];rfl,λy hy=>?_,?_,sm.trans su⟩
   ·rcases zV.mp hy with h | h
    ·exact su _ _ (kq y h)
    ·rw [zE.mp h];exact xQ
   ·rw [zB,eq,xv hx,zB];rfl
  ·rintro τ acc H5 ⟨qs,⟨t0,t1,t2,rfl⟩,rfl,kq,eq,sm⟩ lp Rb;rw [zA,zd] at eq;have s1:=xT (o:=HO.lst (qs.map λx=>V.ref x.1)) Rb;have OO:=sm.trans s1;have kp:upd H5 lp (HO.lst (qs.map λx=>V.ref x.1)) lp=some (.lst (qs.map λx=>V.ref x.1)):=xQ;have Zr:∀ x∈qs,upd H5 lp (HO.lst (qs.map λx=>V.ref x.1)) x.1=some (.tup (x.2.map V.int)):=λx hx=>s1 _ _ (kq x hx);generalize upd H5 lp (HO.lst (qs.map λx=>V.ref x.1))=H6 at kp Zr OO ⊢;have lq:qs.length=ts.length:=by have:=congrArg List.length eq;rwa [zA,zA] at this
   refine (zr rfl ⟨lp,qs,rfl,kp,Zr,by omega,λz hz=>?_⟩);have s2:∀ o,ay H6 (upd H6 z o):=λo=>xT hz;refine ⟨z,bM.dd qs,rfl,xQ,zr rfl ⟨lp,zr rfl ⟨.inl (aB.of (s2 _ _ _ kp)),rfl,zr rfl ?_⟩⟩⟩;have de:=Vf (xs:=qs);rw [eq] at de;by_cases Lb:(ts.map λx=>[x.2.k,x.2.j]).Nodup
   rotate_left
   ·have dl:(bM.dd qs).length≠qs.length:=λe=>by rw [decide_eq_true e,decide_eq_false Lb] at de;cases de
    refine ak ?_ ?_
    ·rw [zA];simp;omega
    ·have q2:∀ H',ay H H'->Q (.bl false) H':=λH' s=>by have z:=q H' s;rwa [decide_eq_false Lb,yR] at z
     exact q2 _ (OO.trans (s2 _))
   have dl:(bM.dd qs).length=qs.length:=of_decide_eq_true (by rw [de];exact decide_eq_true Lb);rw [decide_eq_true Lb,zu] at q;refine aA (by rw [zA,dl];simp) ?_;refine (zr rfl ⟨lp,rfl,⟨_,aB.of (s2 _ _ _ kp)⟩,?_⟩);refine (let W7:IC:=λi τ acc H5=>(∃ t0 t1,τ=[t0,t1,some (.ref ll),some (.ref lw)])/\acc=(((ts.map (·.2)).take i).map (lO (ls.map (·.2)) (ws.map (·.2)))).map V.bl/\ay H6 H5;wT (K:=K) (a:=lp) (xs:=qs.map λx=>V.ref x.1) W7 ⟨⟨_,_,rfl⟩,rfl,s2 _⟩ (by rw [zA];omega) ?_ ?_ ?_)
   ·rintro i τ acc H5 ⟨_,rfl,sm⟩;exact ⟨by rw [zA,zA,zR];omega,aB.of (sm _ _ kp)⟩
   ·rintro i v τ acc H5 C hv ⟨⟨t0,t1,rfl⟩,rfl,sm⟩ hC;obtain ⟨y,hy,rfl⟩:=wF hv;have lH:(qs.map (·.2))[i]?=some y.2:=qC hy;rw [eq] at lH;obtain ⟨x,hx,ex⟩:∃ x,ts[i]?=some x/\[x.2.k,x.2.j]=y.2:=by
     rw [zD] at lH;cases z:ts[i]? with
     | none=>rw [z] at lH;cases lH
     | some x=>rw [z] at lH;exact ⟨x,rfl,Option.some.inj lH⟩
    have mx:=ok x (zC hx);have hk:=mx.k;have hj:=mx.j;have ky:=sm _ _ (Zr y (zC hy));rw [<-ex] at ky;obtain ⟨k,ek⟩:=zm hk.1;obtain ⟨j,ej⟩:=zm hj.1;have kl:k < ls.length:=by omega
    have jl:j < ws.length:=by omega
    have WJ:bQ (ls.map λa=>V.ref a.1) x.2.k=some (V.ref ls[k].1):=by rw [ek];exact wA (by rw [zD,zF kl];rfl)
    have at2:bQ (ws.map λa=>V.ref a.1) x.2.j=some (V.ref ws[j].1):=by rw [ej];exact wA (by rw [zD,zF jl];rfl)
    have vU:=OO.trans sm;refine (JN ky ?_);refine (zr rfl (zr rfl (bL (vU _ _ hl.l) WJ (zr rfl (zr rfl (bL (vU _ _ hw.l) at2 ?_))))));refine ⟨ls[k].1,ws[j].1,ls[k].2,ws[j].2,rfl,vU _ _ (hl.each _ (yC kl)),vU _ _ (hw.each _ (yC jl)),hC _ _ _ ⟨⟨_,_,rfl⟩,?_,sm⟩⟩;rw [xv (qC hx),zB,zB,<- ny (t:=x.2) (ls:=ls.map (·.2)) (ws:=ws.map (·.2)) (l:=ls[k].2) (w:=ws[j].2) (by rw [ek,yA,zD,zF kl];rfl) (by rw [ej,yA,zD,zF jl];rfl)];rfl
   ·rintro τ acc H5 ⟨⟨t0,t1,rfl⟩,rfl,sm⟩ lc kJ;refine ⟨lc,zr rfl ⟨aB.of xQ,?_⟩⟩;rw [zA,lq,show ts.length=(ts.map (·.2)).length by rw [zA],zd,ym];exact q _ (OO.trans (sm.trans (xT kJ)))
theorem CM:aF ["meeting", "loads", "wants", "row", "one", "other", "when", "many", "there", "back", "begun", "come", "walker", "since", "most", "number", "last"] ["meeting", "loads", "wants", "row"] (aj wM):=L2.bw
theorem D4 (T:Tx K mg a):aW P w K mg base dQ 1 a.Af a.Ao ["meeting", "loads", "wants", "row"] (vN):=by
 refine T.Ah.ok CM (λvs H Q E h=>?_) (λbO A outer s H vs Q E hr h=>?_)
 ·obtain ⟨_,_,_,_,_,_,_,rfl,_⟩:=h;rfl
 ·have nd:=CM.nd;have hu:=hr.units;obtain ⟨m,r,ll,lw,ls,ws,x,rfl,hm,hl,hw,bD,bX,hx,eb,ec,q⟩:=h;refine bP ?_;intro Y
  let B0:Bk Y (nb (af wM) 3):=⟨_,(xU (xu (xx (@PW.pt _ _ _ (dH (xp fG (pv 15) xS (av _)) (dc (@PW.pt _ _ _ (qM (xp iy (pv 12) (wS (xP (xR (pv 4) (xR (pv 5) xW rfl) rfl))) rfl) (wx (xp cu (pv 16) (pv 6) (av _)))))))) (xU (xu (xq qL))) xr)))⟩
  let B1:Bk Y ((af wM).drop 3):=⟨_,(xU (xl (qP PassesOwn.never rfl (iu rfl rfl T.kY (xP (xR (pv 2) (xR (pv 11) xW rfl) rfl))) (wE (n:=2) rfl rfl (xY (wE (n:=3) rfl rfl (xY (xX (i:=12) nd rfl rfl) (xY (xX (i:=16) nd rfl rfl) (xY (xX (i:=14) nd rfl rfl) wD)))) (xY (xX (i:=15) nd rfl rfl) wD))) B0.ps) (xu (xq (wf cR (xm wR (pv 8) (pv 9)) (pv 7) (av _))))))⟩
  let B2:Bk Y (nb (af wM) 2):=⟨_,(xU (xu (xx (@PW.pt _ _ _ (dH (xp fG (pv 15) xS (av _)) (dc (@PW.pt _ _ _ (qM (xp iy (pv 12) (wS (xP (xR (pv 4) (xR (pv 5) xW rfl) rfl))) rfl) (wx (xp pQ (pv 13) (pv 6) (av _)))))))) (xU (xu (xq qL))) xr)))⟩
  let B3:Bk Y ((af wM).drop 2):=⟨_,(xU (xl (qP PassesOwn.never rfl (iu rfl rfl T.kY (xP (xR (pv 1) (xR (pv 10) xW rfl) rfl))) (wE (n:=2) rfl rfl (xY (wE (n:=3) rfl rfl (xY (xX (i:=12) nd rfl rfl) (xY (xX (i:=13) nd rfl rfl) (xY (xX (i:=14) nd rfl rfl) wD)))) (xY (xX (i:=15) nd rfl rfl) wD))) B2.ps) B1.bl))⟩
  let B4:Bk Y ((af wM).drop 1):=⟨_,(xU (xl (wG (pv 3) (wE (n:=4) rfl rfl (xY (xX (i:=8) nd rfl rfl) (xY (xX (i:=9) nd rfl rfl) (xY (xX (i:=10) nd rfl rfl) (xY (xX (i:=11) nd rfl rfl) wD)))))) B3.bl))⟩
  refine ⟨_,(xU (xl (wG (pv 0) (wE (n:=4) rfl rfl (xY (xX (i:=4) nd rfl rfl) (xY (xX (i:=5) nd rfl rfl) (xY (xX (i:=6) nd rfl rfl) (xY (xX (i:=7) nd rfl rfl) wD)))))) B4.bl)),?_⟩;have line:=bf;have s0:=ay.refl H;refine (zr rfl (RT hm ?_));refine (zr rfl (RT hx.a ?_));refine (zr rfl (zr rfl ⟨ll,x.b,rfl,⟨_,aB.of (s0 _ _ hl.l)⟩,⟨_,aB.of (s0 _ _ hx.b)⟩,?_⟩));refine rq (K:=K) (a:=ll) (b:=x.b) (xs:=ls.map λa=>V.ref a.1) (ys:=x.r.bg.map V.int) (by rw [zA,zA,eb]) (λi σ H5=>(∃ Py OF J8 J7 JM,σ=[some (.ref m),some (.ref ll),some (.ref lw),some (.ref x.a),some (.int r.lo),some (.int r.hi),some (.int r.t),some (.int r.m),some (.int x.r.th),some (.int x.r.bk),some (.ref x.b),some (.ref x.c),Py,OF,J8,J7,JM])/\(((ls.map (·.2)).zip x.r.bg).take i).all (dg r (λs=>decide (s.t ≥ r.t)))=true/\ay H H5) ⟨⟨_,_,_,_,_,rfl⟩,rfl,s0⟩ ?_ ?_ ?_
  ·rintro i σ H5 _ ⟨_,_,sm⟩;exact ⟨aB.of (sm _ _ hl.l),aB.of (sm _ _ hx.b)⟩
  ·rintro i x1 y1 z σ H5 UB Lu hz ⟨⟨Py,OF,J8,J7,JM,rfl⟩,al,sm⟩;obtain ⟨s1,JT,rfl⟩:=wF UB;obtain ⟨n,hn1,rfl⟩:=wF Lu;have jz:=sm.trans (xT (o:=HO.tup [V.ref s1.1,V.int n]) hz);have zi:=cW (qC JT) hn1;refine ⟨z,zr rfl ⟨aX.of xQ,rfl,lV rfl (MW (jz _ _ (hl.each s1 (zC JT))) (aG rfl rfl ?_))⟩⟩;generalize upd H5 z (HO.tup [V.ref s1.1,V.int n])=H6 at jz ⊢;refine (zr rfl (aG rfl rfl (zr rfl ?_)));have Th:∀ H7,ay H6 H7->dg r (λs=>decide (s.t ≥ r.t)) (s1.2,n)=true->((∃ XT y13 XS y15 XR,[some (.ref m),some (.ref ll),some (.ref lw),some (.ref x.a),some (.int r.lo),some (.int r.hi),some (.int r.t),some (.int r.m),some (.int x.r.th),some (.int x.r.bk),some (.ref x.b),some (.ref x.c),some (.int s1.2.w),some (.int s1.2.t),some (.int s1.2.m),some (.int n),JM]=[some (V.ref m),some (.ref ll),some (.ref lw),some (.ref x.a),some (.int r.lo),some (.int r.hi),some (.int r.t),some (.int r.m),some (.int x.r.th),some (.int x.r.bk),some (.ref x.b),some (.ref x.c),XT,y13,XS,y15,XR])/\(((ls.map (·.2)).zip x.r.bg).take (i + 1)).all (dg r (λs=>decide (s.t ≥ r.t)))=true/\ay H H7):=λH7 s7 e=>⟨⟨_,_,_,_,_,rfl⟩,by rw [rO zi,al,e];rfl,jz.trans s7⟩;have bad:∀ H7,ay H6 H7->dg r (λs=>decide (s.t ≥ r.t)) (s1.2,n)=false->Q (.bl false) H7:=λH7 s7 e=>by
    have:=q _ (jz.trans s7);rwa [show aQ r (ls.map (·.2)) (ws.map (·.2)) x.r=false by unfold aQ;rw [rN zi e];rfl] at this
   by_cases c1:n > 0
   ·refine ak (decide_eq_true c1) (zr rfl (zr rfl (zr rfl ⟨by show 2<=_;omega,λu hu=>⟨u,zr rfl ⟨.inr (aX.of xQ),rfl,rfl,zr rfl ?_⟩⟩⟩)));have su:=xT (o:=HO.tup [V.int r.lo,V.int r.hi]) hu;have ei:Q2 (V.int s1.2.w) [V.int r.lo,V.int r.hi]=(decide (s1.2.w=r.lo) || decide (s1.2.w=r.hi)):=gb;rw [ei];have em:dg r (λs=>decide (s.t ≥ r.t)) (s1.2,n)=!(!(decide (s1.2.w=r.lo) || decide (s1.2.w=r.hi)) || decide (s1.2.t ≥ r.t)):=by unfold dg;simp only [c1,decide_true,zu]
    cases c2:(decide (s1.2.w=r.lo) || decide (s1.2.w=r.hi)) with
    | false=>exact ak rfl (ak rfl (bad _ su (by rw [em,c2];rfl)))
    | true=>
     refine aA rfl (zr rfl (zr rfl (aG rfl rfl (zr rfl ?_))));by_cases c3:s1.2.t ≥ r.t
     ·exact ak (decide_eq_true c3) (bad _ su (by rw [em,c2,decide_eq_true c3];rfl))
     ·exact aA (decide_eq_false c3) (Th _ su (by rw [em,c2,decide_eq_false c3];rfl))
   ·exact aA (decide_eq_false c1) (aA rfl (Th _ (ay.refl _) (by unfold dg;rw [decide_eq_false c1];rfl)))
  rintro σ H5 ⟨⟨Py,OF,J8,J7,JM,rfl⟩,al1,s0⟩;have e:(ls.map λa=>V.ref a.1).length=((ls.map (·.2)).zip x.r.bg).length:=by rw [zA,fY (by rw [eb,zA]),zA]
  rw [e,zd] at al1;refine (zr rfl (zr rfl ⟨lw,x.c,rfl,⟨_,aB.of (s0 _ _ hw.l)⟩,⟨_,aB.of (s0 _ _ hx.c)⟩,?_⟩));refine rq (K:=K) (a:=lw) (b:=x.c) (xs:=ws.map λa=>V.ref a.1) (ys:=x.r.cm.map V.int) (by rw [zA,zA,ec]) (λi σ H5=>(∃ Py OF J8 J7 JM,σ=[some (.ref m),some (.ref ll),some (.ref lw),some (.ref x.a),some (.int r.lo),some (.int r.hi),some (.int r.t),some (.int r.m),some (.int x.r.th),some (.int x.r.bk),some (.ref x.b),some (.ref x.c),Py,OF,J8,J7,JM])/\(((ws.map (·.2)).zip x.r.cm).take i).all (dg r (λs=>decide (s.t < r.t)))=true/\ay H H5) ⟨⟨_,_,_,_,_,rfl⟩,rfl,s0⟩ ?_ ?_ ?_
  ·rintro i σ H5 _ ⟨_,_,sm⟩;exact ⟨aB.of (sm _ _ hw.l),aB.of (sm _ _ hx.c)⟩
  ·rintro i x1 y1 z σ H5 UB Lu hz ⟨⟨Py,OF,J8,J7,JM,rfl⟩,al,sm⟩;obtain ⟨s1,JT,rfl⟩:=wF UB;obtain ⟨n,hn1,rfl⟩:=wF Lu;have jz:=sm.trans (xT (o:=HO.tup [V.ref s1.1,V.int n]) hz);have zi:=cW (qC JT) hn1;refine ⟨z,zr rfl ⟨aX.of xQ,rfl,lV rfl (MW (jz _ _ (hw.each s1 (zC JT))) (aG rfl rfl ?_))⟩⟩;generalize upd H5 z (HO.tup [V.ref s1.1,V.int n])=H6 at jz ⊢;refine (zr rfl (aG rfl rfl (zr rfl ?_)));have Th:∀ H7,ay H6 H7->dg r (λs=>decide (s.t < r.t)) (s1.2,n)=true->((∃ XT y13 XS y15 XR,[some (.ref m),some (.ref ll),some (.ref lw),some (.ref x.a),some (.int r.lo),some (.int r.hi),some (.int r.t),some (.int r.m),some (.int x.r.th),some (.int x.r.bk),some (.ref x.b),some (.ref x.c),some (.int s1.2.w),OF,some (.int s1.2.m),some (.int n),some (.int s1.2.t)]=[some (V.ref m),some (.ref ll),some (.ref lw),some (.ref x.a),some (.int r.lo),some (.int r.hi),some (.int r.t),some (.int r.m),some (.int x.r.th),some (.int x.r.bk),some (.ref x.b),some (.ref x.c),XT,y13,XS,y15,XR])/\(((ws.map (·.2)).zip x.r.cm).take (i + 1)).all (dg r (λs=>decide (s.t < r.t)))=true/\ay H H7):=λH7 s7 e=>⟨⟨_,_,_,_,_,rfl⟩,by rw [rO zi,al,e];rfl,jz.trans s7⟩;have bad:∀ H7,ay H6 H7->dg r (λs=>decide (s.t < r.t)) (s1.2,n)=false->Q (.bl false) H7:=λH7 s7 e=>by
    have:=q _ (jz.trans s7);rwa [show aQ r (ls.map (·.2)) (ws.map (·.2)) x.r=false by unfold aQ;rw [rN zi e];simp] at this
   by_cases c1:n > 0
   ·refine ak (decide_eq_true c1) (zr rfl (zr rfl (zr rfl ⟨by show 2<=_;omega,λu hu=>⟨u,zr rfl ⟨.inr (aX.of xQ),rfl,rfl,zr rfl ?_⟩⟩⟩)));have su:=xT (o:=HO.tup [V.int r.lo,V.int r.hi]) hu;have ei:Q2 (V.int s1.2.w) [V.int r.lo,V.int r.hi]=(decide (s1.2.w=r.lo) || decide (s1.2.w=r.hi)):=gb;rw [ei];have em:dg r (λs=>decide (s.t < r.t)) (s1.2,n)=!(!(decide (s1.2.w=r.lo) || decide (s1.2.w=r.hi)) || decide (s1.2.t < r.t)):=by unfold dg;simp only [c1,decide_true,zu]
    cases c2:(decide (s1.2.w=r.lo) || decide (s1.2.w=r.hi)) with
    | false=>exact ak rfl (ak rfl (bad _ su (by rw [em,c2];rfl)))
    | true=>
     refine aA rfl (zr rfl (zr rfl (aG rfl rfl (zr rfl ?_))));by_cases c3:s1.2.t < r.t
     ·exact ak (decide_eq_true c3) (bad _ su (by rw [em,c2,decide_eq_true c3];rfl))
     ·exact aA (decide_eq_false c3) (Th _ su (by rw [em,c2,decide_eq_false c3];rfl))
   ·exact aA (decide_eq_false c1) (aA rfl (Th _ (ay.refl _) (by unfold dg;rw [decide_eq_false c1];rfl)))
  rintro σ H5 ⟨⟨Py,OF,J8,J7,JM,rfl⟩,al2,s0⟩;have e:(ws.map λa=>V.ref a.1).length=((ws.map (·.2)).zip x.r.cm).length:=by rw [zA,fY (by rw [ec,zA]),zA]
  rw [e,zd] at al2;refine (zr rfl (zr rfl (aG rfl rfl (zr rfl (aG rfl rfl ?_)))));have:=q _ s0;rwa [show aQ r (ls.map (·.2)) (ws.map (·.2)) x.r=decide (x.r.th + x.r.bk<=r.m) by unfold aQ;rw [al1,al2];rfl] at this
theorem EM:aF ["parts", "numbers", "walker"] ["parts", "numbers", "walker"] (aj C7):=L2.bw
theorem GV (T:Tx K mg a):aW P w K mg base dQ 1 a.Bi a.Ch ["parts", "numbers", "walker"] (Yg):=by
 refine T.BJ.ok EM (λvs H Q E h=>?_) (λbO A outer s H vs Q E hr h=>?_)
 ·obtain ⟨_,_,_,_,_,rfl,_⟩:=h;rfl
 ·have nd:=EM.nd;have hu:=hr.units;obtain ⟨l,n,ps,ns,w,rfl,hl,hn,en,bD,q⟩:=h;refine ⟨_,(xU (xu (xq (xf (cJ rfl) (by rfl) T.kZ yd (xP (xR (wc (own:=["part", "number"]) (caps:=[2]) rfl (show aD ["part", "number"] [2] ["parts", "numbers", "walker"] (aj C7) _ from L2.b8) (iu rfl rfl T.kY (xP (xR (pv 0) (xR (pv 1) xW rfl) rfl))) (λ_ _ _ _=>(wE (n:=2) rfl rfl (xY (xX (i:=0) (show List.Nodup (["part", "number", "walker"]:List Str) from by decide +kernel) rfl rfl) (xY (xX (i:=1) (show List.Nodup (["part", "number", "walker"]:List Str) from by decide +kernel) rfl rfl) wD)))) (λ_ _ _ _=>nG (xp qA (xi (xo rfl) (pv 0) xS (λ_ _=>rfl)) (pv 2) (av _))) (λ_ _ _ _=>(pv 1))) xW rfl)))))),?_⟩;have line:=bf;refine (zr rfl (zr rfl ⟨l,n,rfl,⟨_,aB.of hl.l⟩,⟨_,aB.of hn⟩,?_⟩));refine jb (K:=K) (a:=l) (b:=n) (xs:=ps.map λa=>V.ref a.1) (ys:=List.map V.int ns) (by rw [zA,zA,en]) (λi τ acc H5=>(∃ t0 t1,τ=[t0,t1,some (.int w)])/\acc=(((((ps.map (·.2)).zip ns).take i).filter λp=>decide (p.1.w=w)).map (·.2)).map V.int/\ay H H5) ⟨⟨_,_,rfl⟩,rfl,ay.refl _⟩ (by rw [zA];omega) ?_ ?_ ?_
  ·rintro i τ acc H5 ⟨_,rfl,sm⟩;refine ⟨?_,aB.of (sm _ _ hl.l),aB.of (sm _ _ hn)⟩;rw [zA,zA];exact yG (List.length_filter_le _ _) (by rw [zR];omega)
  ·rintro i x y z τ acc H5 C hx hy hz ⟨⟨t0,t1,rfl⟩,rfl,sm⟩ hC;obtain ⟨r,hr,rfl⟩:=wF hx;obtain ⟨y2,lH,rfl⟩:=wF hy;have jz:=sm.trans (xT (o:=HO.tup [V.ref r.1,V.int y2]) hz);have st:=pT (w:=w) (qC hr) lH;refine (JN xQ ?_);refine (zr rfl (bH (jz _ _ (hl.each r (zC hr))) rfl (zr rfl ⟨rfl,zr rfl ?_⟩)));by_cases c:r.2.w=w
   ·rw [if_pos c] at st;exact ak (decide_eq_true (by rw [c])) (zr rfl (hC _ _ _ ⟨⟨_,_,rfl⟩,by rw [st,zB];rfl,jz⟩))
   ·rw [if_neg c,zO] at st;exact aA (decide_eq_false (λz=>c (V.int.inj z))) (hC _ _ _ ⟨⟨_,_,rfl⟩,by rw [st],jz⟩)
  ·rintro τ acc H5 ⟨⟨t0,t1,rfl⟩,rfl,sm⟩ lc kJ;refine ⟨lc,zr rfl ⟨aB.of xQ,?_⟩⟩;have e:(ps.map λa=>V.ref a.1).length=((ps.map (·.2)).zip ns).length:=by rw [zA,fY (by rw [en,zA]),zA]
   rw [e,zd];exact q _ (sm.trans (xT kJ))
theorem DY:aF ["bags", "meeting", "loads", "wants", "row", "one", "other", "when", "many", "there", "back", "begun", "come", "behind", "walker", "given", "taken", "out", "into"] ["bags", "meeting", "loads", "wants", "row"] (aj ww):=L2.bw
theorem Gi (T:Tx K mg a):aW P w K mg base dQ 2 a.AJ a.BC ["bags", "meeting", "loads", "wants", "row"] (vR):=by
 have FI:=GV P w base T;refine T.Be.ok DY (λvs H Q E h=>?_) (λbO A outer s H vs Q E hr h=>?_)
 ·obtain ⟨_,_,_,_,_,_,_,_,_,rfl,_⟩:=h;rfl
 ·have nd:=DY.nd;have hu:=hr.units;obtain ⟨lb,bs,m,r,ll,lw,ls,ws,x,rfl,kK,⟨b0,b1,b2⟩,af0,hm,hl,hw,bD,bX,hx,eb,ec,q0,q⟩:=h;refine bP ?_;intro Y
  let B0:Bk Y ((nb (af ww) 3).drop 2):=⟨_,(xU (xl (xx (@PW.pt _ _ _ (qM (wN (ir cR cR xS (pv 17) (xi (xh rfl) (pv 0) (pv 14) (λ_ _=>rfl)))) (wx (xp cu (pv 18) xS (av _))))) (xU (xu (xq qi))) xr) (xu (nH (pv 13) (pv 14) (kN rfl) (xm wW (pv 18) (pv 17)) tH wJ))))⟩
  let B1:Bk Y ((nb (af ww) 3).drop 1):=⟨_,(xU (xl (xk (i:=18) nd rfl rfl (xm wW (pv 16) (xZ FI (hr.mono (by decide)) rfl T.Fz T.FC T.FF .nil aq (xP (xR (pv 3) (xR (pv 12) (xR (pv 14) xW rfl) rfl) rfl))))) B0.bl))⟩
  let B2:Bk Y (nb (af ww) 3):=⟨_,(xU (xl (xk (i:=17) nd rfl rfl (xm wW (pv 15) (xZ FI (hr.mono (by decide)) rfl T.Fz T.FC T.FF .nil aq (xP (xR (pv 2) (xR (pv 11) (xR (pv 14) xW rfl) rfl) rfl))))) B1.bl))⟩
  let B3:Bk Y ((af ww).drop 3):=⟨_,(xU (xl (qP PassesOwn.never rfl (iw rfl (wS (xP (xR (wS (xP (xR (pv 5) (xR (pv 9) (xR (pv 10) xW rfl) rfl) rfl))) (xR (wS (xP (xR (pv 6) (xR (pv 10) (xR (pv 9) xW rfl) rfl) rfl))) xW rfl) rfl)))) (wE (n:=3) rfl rfl (xY (xX (i:=14) nd rfl rfl) (xY (xX (i:=15) nd rfl rfl) (xY (xX (i:=16) nd rfl rfl) wD)))) B2.ps) (xu (xq (pv 13)))))⟩
  let B4:Bk Y ((af ww).drop 1):=⟨_,(xU (xl (wG (pv 4) (wE (n:=4) rfl rfl (xY (xX (i:=9) nd rfl rfl) (xY (xX (i:=10) nd rfl rfl) (xY (xX (i:=11) nd rfl rfl) (xY (xX (i:=12) nd rfl rfl) wD)))))) (xl (xk (i:=13) nd rfl rfl (wK (qG rfl) (by rfl) T.cK yD (xP (xR (pv 0) xW rfl)))) B3.bl)))⟩
  refine ⟨_,(xU (xl (wG (pv 1) (wE (n:=4) rfl rfl (xY (xX (i:=5) nd rfl rfl) (xY (xX (i:=6) nd rfl rfl) (xY (xX (i:=7) nd rfl rfl) (xY (xX (i:=8) nd rfl rfl) wD)))))) B4.bl)),?_⟩;have line:=bf;refine ⟨_,rfl,m,_,rfl,aX.of hm,rfl,_,_,rfl,_,_,rfl,_,_,rfl,_,_,rfl,rfl,?_⟩;refine ⟨_,rfl,x.a,_,rfl,aX.of hx.a,rfl,_,_,rfl,_,_,rfl,_,_,rfl,_,_,rfl,rfl,?_⟩;refine ⟨_,rfl,lb,_,rfl,.inl (aB.of kK),λl LD=>?_⟩;have s1:=xT (o:=HO.lst (List.map V.int bs)) LD;have kl:upd H l (HO.lst (List.map V.int bs)) l=some (.lst (List.map V.int bs)):=xQ;generalize upd H l (HO.lst (List.map V.int bs))=H1 at s1 kl ⊢;have en:∀ (a b c:V),[a,b,c].length<=sizeLine:=λ_ _ _=>by show 3<=_;omega
  refine ⟨_,rfl,_,rfl,_,rfl,en _ _ _,λu1 ZU=>?_⟩;have k1:upd H1 u1 (HO.tup [V.int r.lo,V.int x.r.th,V.int x.r.bk]) u1=some (.tup [.int r.lo,.int x.r.th,.int x.r.bk]):=xQ;have s2:=xT (o:=HO.tup [V.int r.lo,V.int x.r.th,V.int x.r.bk]) ZU;generalize upd H1 u1 (HO.tup [V.int r.lo,V.int x.r.th,V.int x.r.bk])=H2 at s2 k1 ⊢;refine ⟨_,rfl,_,rfl,_,rfl,en _ _ _,λu2 N7=>?_⟩;have k2:upd H2 u2 (HO.tup [V.int r.hi,V.int x.r.bk,V.int x.r.th]) u2=some (.tup [.int r.hi,.int x.r.bk,.int x.r.th]):=xQ;have s3:=xT (o:=HO.tup [V.int r.hi,V.int x.r.bk,V.int x.r.th]) N7;generalize upd H2 u2 (HO.tup [V.int r.hi,V.int x.r.bk,V.int x.r.th])=H3 at s3 k2 ⊢;refine ⟨by show 2<=_;omega,λu3 ZT=>?_⟩;have k3:upd H3 u3 (HO.tup [V.ref u1,V.ref u2]) u3=some (.tup [.ref u1,.ref u2]):=xQ;have s4:=xT (o:=HO.tup [V.ref u1,V.ref u2]) ZT;generalize upd H3 u3 (HO.tup [V.ref u1,V.ref u2])=H4 at s4 k3 ⊢;have MG:=s4 _ _ (s3 _ _ (s2 _ _ kl));have k1:=s4 _ _ (s3 _ _ k1);have k2:=s4 _ _ k2;have sm4:=s1.trans (s2.trans (s3.trans s4));refine ⟨u3,rfl,⟨_,aX.of k3⟩,?_⟩;refine (let W8:IV:=λi σ H5=>∃ cs,(∃ J8 J7 JM lG Px,σ=[some (.ref lb),some (.ref m),some (.ref ll),some (.ref lw),some (.ref x.a),some (.int r.lo),some (.int r.hi),some (.int r.t),some (.int r.m),some (.int x.r.th),some (.int x.r.bk),some (.ref x.b),some (.ref x.c),some (.ref l),J8,J7,JM,lG,Px])/\gq bs r (ls.map (·.2)) (ws.map (·.2)) x.r i cs/\cs.length=bs.length/\H5 l=some (.lst (cs.map V.int))/\ay H H5/\cg H4 H5;Og (K:=K) (a:=u3) (xs:=[V.ref u1,V.ref u2]) W8 ⟨bs,⟨_,_,_,_,_,rfl⟩,rfl,rfl,MG,sm4,cg.refl _⟩ ?_ ?_ ?_)
  ·rintro i σ H5 _ ⟨cs,_,_,_,_,_,tp⟩;exact aX.of (tp _ _ k3)
  ·rintro i v σ H5 hv ⟨cs,⟨J8,J7,JM,lG,Px,rfl⟩,tI,lc,Wb,vU,tp⟩
   match i,hv,tI with
   | 0,hv,tI=>
    obtain rfl:=Option.some.inj hv;have tI:bs=cs:=(tI:_=_).symm;subst tI;refine ⟨u1,_,rfl,aX.of (tp _ _ k1),rfl,_,_,rfl,_,_,rfl,_,_,rfl,rfl,?_⟩;refine ⟨_,rfl,_,rfl,_,rfl,_,rfl,ll,x.b,ls,x.r.bg,r.lo,rfl,hl.same vU,vU _ _ hx.b,eb,bD,λH6 s6=>⟨_,_,rfl,rfl,?_⟩⟩;have jz:=vU.trans s6;refine ⟨_,rfl,_,rfl,_,rfl,_,rfl,lw,x.c,ws,x.r.cm,r.lo,rfl,hw.same jz,jz _ _ hx.c,ec,bX,λH7 s7=>⟨_,_,rfl,rfl,?_⟩⟩;have P9:=jz.trans s7;refine ⟨_,rfl,_,_,rfl,rfl,_,rfl,?_⟩;have none:bC bs r.lo (x.r.th - bE (ls.map (·.2)) x.r.bg r.lo) (x.r.bk - bE (ws.map (·.2)) x.r.cm r.lo)=false->Q .bF H7:=λe=>q0 (by unfold aM;rw [e,yR];rfl) _ P9;have bat:=jv (bs:=bs) (w:=r.lo) (by omega) (by omega);by_cases c1:0<=x.r.th - bE (ls.map (·.2)) x.r.bg r.lo
    ·refine ak (decide_eq_true c1) ⟨_,rfl,_,rfl,lb,_,_,_,rfl,rfl,aB.of (P9 _ _ kK),bat,_,_,rfl,rfl,_,rfl,?_⟩;by_cases c2:x.r.th - bE (ls.map (·.2)) x.r.bg r.lo<=aP bs r.lo
     ·refine aA (by rw [decide_eq_true c2];rfl) ⟨_,rfl,_,_,rfl,rfl,_,rfl,?_⟩;by_cases c3:x.r.bk - bE (ws.map (·.2)) x.r.cm r.lo < 0
      ·exact ak (decide_eq_true c3) (none (by unfold bC;rw [decide_eq_false (show ¬ 0<=x.r.bk - bE (ws.map (·.2)) x.r.cm r.lo by omega)];simp))
      ·refine aA (decide_eq_false c3) ?_;have ok:bC bs r.lo (x.r.th - bE (ls.map (·.2)) x.r.bg r.lo) (x.r.bk - bE (ws.map (·.2)) x.r.cm r.lo)=true:=by unfold bC;rw [decide_eq_true c1,decide_eq_true c2,decide_eq_true (show 0<=x.r.bk - bE (ws.map (·.2)) x.r.cm r.lo by omega)];rfl
       have QM:=s7 _ _ (s6 _ _ Wb);have cat:=Vk (bs:=bs) (w:=r.lo) (by omega) (by omega);refine ⟨_,rfl,_,rfl,l,_,_,_,rfl,congrArg V.int (Int.toNat_of_nonneg (by omega)).symm,aB.of QM,cat,_,rfl,_,rfl,_,_,rfl,rfl,_,_,rfl,rfl,l,_,_,r.lo.toNat,rfl,rfl,QM,tD (by omega) (by rw [zA];omega),?_⟩;exact ⟨_,⟨_,_,_,_,_,rfl⟩,⟨ok,rfl⟩,by rw [yI],by rw [xQ,yP],ay.put LD P9,(tp.trans (cg.same (s6.trans s7))).trans (cg.set QM)⟩
     ·refine ak (by rw [decide_eq_false c2];rfl) (none (by unfold bC;rw [decide_eq_false c2];simp))
    ·refine aA (decide_eq_false c1) ⟨_,rfl,ak rfl (none (by unfold bC;rw [decide_eq_false c1];rfl))⟩
   | 1,hv,tI=>
    obtain rfl:=Option.some.inj hv;obtain ⟨g1,ecs⟩:bC bs r.lo _ _=true/\cs=_:=tI;refine ⟨u2,_,rfl,aX.of (tp _ _ k2),rfl,_,_,rfl,_,_,rfl,_,_,rfl,rfl,?_⟩;refine ⟨_,rfl,_,rfl,_,rfl,_,rfl,ll,x.b,ls,x.r.bg,r.hi,rfl,hl.same vU,vU _ _ hx.b,eb,bD,λH6 s6=>⟨_,_,rfl,rfl,?_⟩⟩;have jz:=vU.trans s6;refine ⟨_,rfl,_,rfl,_,rfl,_,rfl,lw,x.c,ws,x.r.cm,r.hi,rfl,hw.same jz,jz _ _ hx.c,ec,bX,λH7 s7=>⟨_,_,rfl,rfl,?_⟩⟩;have P9:=jz.trans s7;refine ⟨_,rfl,_,_,rfl,rfl,_,rfl,?_⟩;have none:bC bs r.hi (x.r.bk - bE (ls.map (·.2)) x.r.bg r.hi) (x.r.th - bE (ws.map (·.2)) x.r.cm r.hi)=false->Q .bF H7:=λe=>q0 (by unfold aM;rw [e,yU];rfl) _ P9;have bat:=jv (bs:=bs) (w:=r.hi) (by omega) (by omega);by_cases c1:0<=x.r.bk - bE (ls.map (·.2)) x.r.bg r.hi
    ·refine ak (decide_eq_true c1) ⟨_,rfl,_,rfl,lb,_,_,_,rfl,rfl,aB.of (P9 _ _ kK),bat,_,_,rfl,rfl,_,rfl,?_⟩;by_cases c2:x.r.bk - bE (ls.map (·.2)) x.r.bg r.hi<=aP bs r.hi
     ·refine aA (by rw [decide_eq_true c2];rfl) ⟨_,rfl,_,_,rfl,rfl,_,rfl,?_⟩;by_cases c3:x.r.th - bE (ws.map (·.2)) x.r.cm r.hi < 0
      ·exact ak (decide_eq_true c3) (none (by unfold bC;rw [decide_eq_false (show ¬ 0<=x.r.th - bE (ws.map (·.2)) x.r.cm r.hi by omega)];simp))
      ·refine aA (decide_eq_false c3) ?_;have ok:bC bs r.hi (x.r.bk - bE (ls.map (·.2)) x.r.bg r.hi) (x.r.th - bE (ws.map (·.2)) x.r.cm r.hi)=true:=by unfold bC;rw [decide_eq_true c1,decide_eq_true c2,decide_eq_true (show 0<=x.r.th - bE (ws.map (·.2)) x.r.cm r.hi by omega)];rfl
       have QM:=s7 _ _ (s6 _ _ Wb);have cat:=Vk (bs:=cs) (w:=r.hi) (by omega) (by omega);refine ⟨_,rfl,_,rfl,l,_,_,_,rfl,congrArg V.int (Int.toNat_of_nonneg (by omega)).symm,aB.of QM,cat,_,rfl,_,rfl,_,_,rfl,rfl,_,_,rfl,rfl,l,_,_,r.hi.toNat,rfl,rfl,QM,tD (by omega) (by rw [zA];omega),?_⟩;exact ⟨cs.set r.hi.toNat (aP cs r.hi + ((x.r.th - bE (ws.map (·.2)) x.r.cm r.hi) - (x.r.bk - bE (ls.map (·.2)) x.r.bg r.hi))),⟨_,_,_,_,_,rfl⟩,⟨g1,ok,by rw [ecs,JH b0 (by omega) (by omega)]⟩,by rw [yI];exact lc,by rw [xQ,yP],ay.put LD P9,(tp.trans (cg.same (s6.trans s7))).trans (cg.set QM)⟩
     ·refine ak (by rw [decide_eq_false c2];rfl) (none (by unfold bC;rw [decide_eq_false c2];simp))
    ·refine aA (decide_eq_false c1) ⟨_,rfl,ak rfl (none (by unfold bC;rw [decide_eq_false c1];rfl))⟩
   | n + 2,hv,_=>exact absurd hv (by simp)
  ·rintro σ H5 ⟨cs,⟨J8,J7,JM,lG,Px,rfl⟩,⟨g1,g2,ecs⟩,lc,Wb,vU,tp⟩;exact ⟨_,rfl,q cs (by unfold aM;rw [g1,g2,ecs];rfl) l _ LD vU Wb⟩
theorem Dl:aF ["book", "loads", "wants", "rows", "bags", "meeting", "row"] ["book", "loads", "wants", "rows"] (aj wX):=L2.bw
theorem Ff (T:Tx K mg a):aW P w K mg base dQ 3 a.Ar a.AS ["book", "loads", "wants", "rows"] (P6):=by
 have Eu:=D4 P w base T;have GR:=Gi P w base T;refine T.AD.ok Dl (λvs H Q E h=>?_) (λbO A outer s H vs Q E hr h=>?_)
 ·obtain ⟨_,_,_,_,_,_,_,_,_,_,_,rfl,_⟩:=h;rfl
 ·have nd:=Dl.nd;have hu:=hr.units;obtain ⟨b,ll,lw,lr,aa,tr,tm,ps,ls,ws,xs,rfl,hb,gd,nF,hl,hw,bD,bX,Q5,hx,lx,fx,q⟩:=h;refine bP ?_;intro Y
  let B0:Bk Y ((nb (af wX) 1).drop 2):=⟨_,(xU (xu (xx (@PW.pt _ _ _ (qM (sN (kh (pv 4))) (wx (wN (wQ (xf (qp rfl rfl) (by rfl) T.iP yO (xP (xR (wc (own:=["bag", "room"]) (caps:=[]) rfl (show aD ["bag", "room"] [] ["book", "loads", "wants", "rows", "bags", "meeting", "row"] (aj wX) _ from L2.b8) (NJ rfl rfl T.kY (xP (xR (pv 4) (xR (xi (xo rfl) (pv 0) xS (λ_ _=>rfl)) xW rfl) rfl))) (λ_ _ _ _=>(wE (n:=2) rfl rfl (xY (xX (i:=0) (show List.Nodup (["bag", "room"]:List Str) from by decide +kernel) rfl rfl) (xY (xX (i:=1) (show List.Nodup (["bag", "room"]:List Str) from by decide +kernel) rfl rfl) wD)))) (λ_ _ _ _=>wP) (λ_ _ _ _=>(wf cR (pv 0) (pv 1) (av _)))) xW rfl)))))))) (xU (xu (xq qL))) xr)))⟩
  let B1:Bk Y ((nb (af wX) 1).drop 1):=⟨_,(xU (xl (xk (i:=4) nd rfl rfl (xZ GR (hr.mono (by decide)) rfl T.GE T.GH T.GK .nil aq (xP (xR (pv 4) (xR (pv 5) (xR (pv 1) (xR (pv 2) (xR (pv 6) xW rfl) rfl) rfl) rfl) rfl)))) B0.bl))⟩
  let B2:Bk Y (nb (af wX) 1):=⟨_,(xU (xl (xx (wN (wQ (xZ Eu (hr.mono (by decide)) rfl T.El T.En T.Ep .nil aq (xP (xR (pv 5) (xR (pv 1) (xR (pv 2) (xR (pv 6) xW rfl) rfl) rfl) rfl))))) (xU (xu (xq qL))) xr) B1.bl))⟩
  let B3:Bk Y ((af wX).drop 1):=⟨_,(xU (xl (qP PassesOwn.never rfl (NI rfl rfl T.kY (xP (xR (xi (xo rfl) (pv 0) xS (λ_ _=>rfl)) (xR (pv 3) xW rfl) rfl))) (wE (n:=2) rfl rfl (xY (xX (i:=5) nd rfl rfl) (xY (xX (i:=6) nd rfl rfl) wD))) B2.ps) (xu (xq qL))))⟩
  refine ⟨_,(xU (xl (cG (ix:=4) nd rfl rfl (own:=["room"]) (caps:=[]) rfl (show aD ["room"] [] ["book", "loads", "wants", "rows", "bags", "meeting", "row"] (aj wX) _ from L2.b8) (iw rfl (xi (xo rfl) (pv 0) xS (λ_ _=>rfl))) (λ_ _ _ _=>(xX (i:=0) (show List.Nodup (["room"]:List Str) from by decide +kernel) rfl rfl)) (λ_ _ _ _=>wP) (λ_ _ _ _=>xS)) B3.bl)),?_⟩;have line:=bf;have sX:=gd.len;refine (zr rfl (bH hb.book rfl ⟨tr,rfl,⟨_,aX.of hb.aa⟩,?_⟩));refine (let W9:IC:=λi τ acc H5=>(∃ t0,τ=[t0])/\acc=(List.replicate i (0:Int)).map V.int/\H5=H;kU (K:=K) (a:=tr) (xs:=aa.map V.int) W9 ⟨⟨_,rfl⟩,rfl,rfl⟩ (by rw [zA];omega) ?_ ?_ ?_)
  ·rintro i τ acc H5 ⟨_,rfl,rfl⟩;exact ⟨by simp,aX.of hb.aa⟩
  ·rintro i v τ acc H5 C hv ⟨⟨t0,rfl⟩,rfl,rfl⟩ hC;refine hC _ _ _ ⟨⟨_,rfl⟩,?_,rfl⟩;rw [List.replicate_succ',zB];rfl
  rintro τ acc H5 ⟨⟨t0,rfl⟩,rfl,rfl⟩ l0 qy;rw [zA];have s1:=xT (o:=HO.lst ((List.replicate aa.length (0:Int)).map V.int)) qy;have k0:upd H5 l0 (HO.lst ((List.replicate aa.length (0:Int)).map V.int)) l0=some (.lst ((List.replicate aa.length (0:Int)).map V.int)):=xQ;generalize upd H5 l0 (HO.lst ((List.replicate aa.length (0:Int)).map V.int))=H1 at s1 k0 ⊢;have ML:=hb.same s1;refine (zr rfl (bH ML.book rfl (zr rfl ⟨tm,lr,rfl,⟨_,aX.of ML.meets⟩,⟨_,aB.of (s1 _ _ Q5)⟩,?_⟩)));refine LU (K:=K) (a:=tm) (b:=lr) (xs:=ps.map λa=>V.ref a.1) (ys:=xs.map λx=>V.ref x.a) (by rw [zA,zA,lx]) (λi σ H6=>∃ lb cs,(∃ v5 v6,σ=[some (.ref b),some (.ref ll),some (.ref lw),some (.ref lr),some (.ref lb),v5,v6])/\H6 lb=some (.lst (cs.map V.int))/\cs.length=aa.length/\cV aa (ls.map (·.2)) (ws.map (·.2)) ((ps.map (·.2)).zip (xs.map (·.r))) (List.replicate aa.length 0)=cV aa (ls.map (·.2)) (ws.map (·.2)) (((ps.map (·.2)).zip (xs.map (·.r))).drop i) cs/\ay H5 H6) ⟨l0,_,⟨_,_,rfl⟩,k0,by rw [yb],rfl,s1⟩ ?_ ?_ ?_
  ·rintro i σ H6 _ ⟨lb,cs,_,_,_,_,sm⟩;exact ⟨aX.of (sm _ _ hb.meets),aB.of (sm _ _ Q5)⟩
  ·rintro i x1 y1 z σ H6 UB Lu hz ⟨lb,cs,⟨v5,v6,rfl⟩,kb,lcs,oB,sm⟩;obtain ⟨r,hr,rfl⟩:=wF UB;obtain ⟨x,O2,rfl⟩:=wF Lu;have mr:=zC hr;have mx:=zC O2;have zi:((ps.map (·.2)).zip (xs.map (·.r)))[i]?=some (r.2,x.r):=cW (qC hr) (by rw [zD,O2];rfl);rw [vm zi,fz] at oB;have s6:=xT (o:=HO.tup [V.ref r.1,V.ref x.a]) hz;refine (JN xQ ?_);have kb:=s6 _ _ kb;have sm:=sm.trans s6;generalize upd H6 z (HO.tup [V.ref r.1,V.ref x.a])=H7 at sm kb ⊢;obtain ⟨f1,f2⟩:=fx x mx;refine (zr rfl (zr rfl (zr rfl (zr rfl ⟨r.1,r.2,ll,lw,ls,ws,x,rfl,sm _ _ (hb.rows r mr),hl.same sm,hw.same sm,bD,bX,(hx x mx).same sm,f1,f2,λH8 s8=>(zr rfl ?_)⟩))));have P8:=sm.trans s8;cases cw:aQ r.2 (ls.map (·.2)) (ws.map (·.2)) x.r with
   | false=>
    rw [cw,yR] at oB;rw [oB] at q;exact ak rfl (q _ P8)
   | true=>
    rw [cw,zu] at oB;obtain ⟨a1,a2,a3,_⟩:=gd.at mr;refine aA rfl (zr rfl (zr rfl (zr rfl (zr rfl (zr rfl ⟨lb,cs,r.1,r.2,ll,lw,ls,ws,x,rfl,s8 _ _ kb,⟨a1,a2,by omega⟩,by omega,P8 _ _ (hb.rows r mr),hl.same P8,hw.same P8,bD,bX,(hx x mx).same P8,f1,f2,λe H9 s9=>?_,λds e pl H9 Q8 s9 R5=>?_⟩)))))
    ·rw [e] at oB;rw [oB] at q;exact (zr rfl (zr rfl (ak rfl (ak rfl (q _ (P8.trans s9))))))
    ·rw [e] at oB;have lds:=jo e;have sm9:=P8.trans s9;have UW:=hb.same sm9;refine (zr rfl (zr rfl (aA rfl (zr rfl (zr rfl (bH UW.book rfl ⟨pl,tr,rfl,⟨_,aB.of R5⟩,⟨_,aX.of UW.aa⟩,?_⟩))))));refine JD (K:=K) (a:=pl) (b:=tr) (xs:=ds.map V.int) (ys:=aa.map V.int) (by rw [zA,zA];omega) (λi τ acc H5=>(∃ t0 t1,τ=[t0,t1])/\acc=((((ds.zip aa).take i).map λp=>decide (p.1<=p.2))).map V.bl/\ay H9 H5) ⟨⟨_,_,rfl⟩,rfl,ay.refl _⟩ (by rw [zA];omega) ?_ ?_ ?_
     ·rintro i τ acc H5 ⟨_,rfl,sm⟩;refine ⟨?_,aB.of (sm _ _ R5),aX.of (sm _ _ UW.aa)⟩;rw [zA,zA,zR];omega
     ·rintro i x y z τ acc H5 C hx hy hz ⟨⟨t0,t1,rfl⟩,rfl,sm⟩ hC;obtain ⟨x2,ZP,rfl⟩:=wF hx;obtain ⟨y2,lH,rfl⟩:=wF hy;refine (JN xQ ?_);refine (zr rfl (zr rfl (aG rfl rfl (hC _ _ _ ⟨⟨_,_,rfl⟩,?_,sm.trans (xT hz)⟩))));rw [xv (cW ZP lH),zB,zB];rfl
     ·rintro τ acc eX ⟨⟨t0,t1,rfl⟩,rfl,SH⟩ lc kJ;have e2:(ds.map V.int).length=(ds.zip aa).length:=by rw [zA,fY (by omega)]
      rw [e2,zd];have Nu:=xT (o:=HO.lst (((ds.zip aa).map λp=>decide (p.1<=p.2)).map V.bl)) kJ;refine ⟨lc,zr rfl ⟨aB.of xQ,zr rfl ?_⟩⟩;rw [ym];have R5:=Nu _ _ (SH _ _ R5);have Qa:=sm9.trans (SH.trans Nu);generalize upd eX lc _=fX at R5 Qa ⊢;cases ca:(ds.zip aa).all λp=>decide (p.1<=p.2) with
      | false=>
       have oB:_=(((ds.zip aa).all λp=>decide (p.1<=p.2)) && _):=oB;rw [ca,yR] at oB;rw [oB] at q;exact ak (by show (!((ds.zip aa).all λp=>decide (p.1<=p.2)))=true;rw [ca];rfl) (q _ Qa)
      | true=>
       have oB:_=(((ds.zip aa).all λp=>decide (p.1<=p.2)) && _):=oB;rw [ca,zu] at oB;exact aA (by show (!((ds.zip aa).all λp=>decide (p.1<=p.2)))=false;rw [ca];rfl) ⟨pl,ds,⟨_,_,rfl⟩,R5,by omega,oB,Qa⟩
  ·rintro σ H6 ⟨lb,cs,⟨v5,v6,rfl⟩,kb,lcs,oB,sm⟩;have e2:(ps.map λa=>V.ref a.1).length=((ps.map (·.2)).zip (xs.map (·.r))).length:=by rw [zA,fY (by rw [zA,zA,lx]),zA]
   rw [e2,List.drop_length] at oB;rw [oB] at q;exact q _ sm
theorem GT:aF ["size", "rows", "straight", "sums", "place", "many"] ["size", "rows", "straight"] (aj D2):=L2.bw
theorem IF (T:Tx K mg a):aW P w K mg base dQ 1 a.CP a.Dv ["size", "rows", "straight"] (Kw):=by
 refine T.C3.ok GT (λvs H Q E h=>?_) (λbO A outer s H vs Q E hr h=>?_)
 ·obtain ⟨_,_,_,_,_,rfl,_⟩:=h;rfl
 ·have nd:=GT.nd;have hu:=hr.units;obtain ⟨n,lr,ls,rs,ts,rfl,NU,Q5,hx,RN,JT,ht,PX,q⟩:=h;refine bP ?_;intro Y
  let B0:Bk Y ((af D2).drop 1):=⟨_,(xU (xl (qP PassesOwn.never rfl (wZ rfl (pv 2)) (wE (n:=2) rfl rfl (xY (xX (i:=4) nd rfl rfl) (xY (xX (i:=5) nd rfl rfl) wD))) (xU (xu (nH (pv 3) (pv 4) (kN rfl) (pv 5) tH wJ)))) (xu (xq (pv 3)))))⟩
  refine ⟨_,(xU (xl (pF (ix:=3) nd rfl rfl (own:=["place"]) (caps:=[1]) rfl (show gT ["place"] [1] ["size", "rows", "straight", "sums", "place", "many"] (aj D2) _ from ⟨rfl,by decide +kernel,by decide +kernel,by decide +kernel,by decide +kernel⟩) (wV rfl T.aU (xP (xR (pv 0) xW rfl))) (λ_ _ _ _=>(xX (i:=0) (show List.Nodup (["place", "rows"]:List Str) from by decide +kernel) rfl rfl)) (λ_ _ _ _=>wP) (λ_ _ _ _=>(xf (tV rfl rfl) (by rfl) T.kZ yd (xP (xR (wc (own:=["row"]) (caps:=[0]) rfl (show aD ["row"] [0] ["place", "rows"] (relabel _ _) _ from aD.inn rfl (by decide +kernel) (by decide +kernel) (by decide +kernel) (by decide +kernel)) (wZ rfl (pv 1)) (λ_ _ _ _=>(xX (i:=0) (show List.Nodup (["row", "place"]:List Str) from by decide +kernel) rfl rfl)) (λ_ _ _ _=>wP) (λ_ _ _ _=>(xi (xh rfl) (pv 0) (pv 1) (λ_ _=>rfl)))) xW rfl))))) B0.bl)),?_⟩;have line:=bf;refine (zr rfl (zr rfl ⟨by omega,by omega,?_⟩));refine (let W10:IC:=λi τ acc H5=>(∃ t0,τ=[t0,some (.ref lr)])/\acc=((eE n (rs.map (·.2)) []).take i).map V.int/\ay H H5;fE (lo:=0) (m:=n) W10 ⟨⟨_,rfl⟩,rfl,ay.refl _⟩ (by omega) ?_ ?_ ?_)
  ·rintro i τ acc H5 ⟨_,rfl,sm⟩;rw [zA,zR];omega
  ·rintro i τ acc H5 C hi ⟨⟨t0,rfl⟩,rfl,sm⟩ hC;refine (zr rfl ⟨lr,rfl,⟨_,aB.of (sm _ _ Q5)⟩,?_⟩);refine (let W11:IC:=λj τ acc H6=>(∃ t0,τ=[t0,some (.int (0 + (i:Int)))])/\acc=(((rs.map (·.2)).take j).map λr=>r.getD i 0).map V.int/\ay H5 H6;wT (K:=K) (a:=lr) (xs:=rs.map λx=>V.ref x.1) W11 ⟨⟨_,rfl⟩,rfl,ay.refl _⟩ (by rw [zA];omega) ?_ ?_ ?_)
   ·rintro j τ acc H6 ⟨_,rfl,s6⟩;exact ⟨by rw [zA,zA,zR];omega,aB.of (s6 _ _ (sm _ _ Q5))⟩
   ·rintro j v τ acc H6 C2 hv ⟨⟨t1,rfl⟩,rfl,s6⟩ hC2;obtain ⟨x,O2,rfl⟩:=wF hv;obtain ⟨kx,lx⟩:=hx x (zC O2);refine (zr rfl (zr rfl (bL (s6 _ _ (sm _ _ kx)) (by rw [yB];exact wA (v:=V.int (x.2.getD i 0)) (by rw [zD,zZ,zF (by omega)];rfl)) (hC2 _ _ _ ⟨⟨_,rfl⟩,?_,s6⟩))));rw [xv (qC O2),zB,zB];rfl
   ·rintro bu af1 H6 ⟨⟨t1,rfl⟩,rfl,s6⟩ lc kJ;have e:(rs.map λx=>V.ref x.1).length=(rs.map (·.2)).length:=by rw [zA,zA]
    rw [e,zd];refine ⟨lc,zr rfl ⟨aB.of xQ,hC _ _ _ ⟨⟨_,rfl⟩,?_,sm.trans (s6.trans (xT kJ))⟩⟩⟩;rw [xv (fZ hi),zB];simp
  rintro τ acc H5 ⟨⟨t0,rfl⟩,rfl,sm⟩ l hl;rw [show List.take n (eE n (rs.map (·.2)) [])=eE n (rs.map (·.2)) [] from yY (by rw [qR];exact zJ _)];have OO:=sm.trans (xT (o:=HO.lst ((eE n (rs.map (·.2)) []).map V.int)) hl);have kl:upd H5 l (HO.lst ((eE n (rs.map (·.2)) []).map V.int)) l=some (.lst ((eE n (rs.map (·.2)) []).map V.int)):=xQ;have nl:H l=none:=by
   cases z:H l with
   | none=>rfl
   | some u=>rw [sm _ _ z] at hl;cases hl
  generalize upd H5 l (HO.lst ((eE n (rs.map (·.2)) []).map V.int))=H1 at OO kl ⊢;refine (zr rfl ⟨ls,rfl,⟨_,aB.of (OO _ _ JT)⟩,?_⟩);refine (let W12:IV:=λi σ H6=>(∃ v4 v5,σ=[some (.int n),some (.ref lr),some (.ref ls),some (.ref l),v4,v5])/\H6 l=some (.lst ((eE n (rs.map (·.2)) ((ts.map (·.2)).take i)).map V.int))/\ay H H6;LV (K:=K) (a:=ls) (xs:=ts.map λx=>V.ref x.1) W12 ⟨⟨_,_,rfl⟩,kl,OO⟩ ?_ ?_ ?_)
  ·rintro i σ H6 _ ⟨_,_,s6⟩;exact aB.of (s6 _ _ JT)
  ·rintro i v σ H6 hv ⟨⟨v4,v5,rfl⟩,k6,s6⟩;obtain ⟨x,O2,rfl⟩:=wF hv;obtain ⟨kx,x0,x1⟩:=ht x (zC O2);obtain ⟨k,ek⟩:=zm x0;have hk:k < n:=by omega
   have O9:=fZ (rows:=rs.map (·.2)) (ps:=(ts.map (·.2)).take i) hk;refine (JN (s6 _ _ kx) ?_);refine (zr rfl (zr rfl ⟨l,_,_,k,rfl,congrArg V.int ek,aB.of k6,by rw [zD,O9];rfl,zr rfl (aG rfl rfl ⟨l,_,_,k,rfl,rfl,k6,by rw [ek];exact qK (by rw [zA,qR];exact hk),⟨_,_,rfl⟩,?_,ay.put nl s6⟩)⟩));rw [xQ,xv (qC O2),show x.2=((k:Int),x.2.2) by rw [<-ek],vI hk O9,yP]
  ·rintro σ H6 ⟨⟨v4,v5,rfl⟩,k6,s6⟩;have e:(ts.map λx=>V.ref x.1).length=(ts.map (·.2)).length:=by rw [zA,zA]
   rw [e,zd] at k6;exact (zr rfl (q l H6 nl s6 k6))
theorem C4:aF ["sums", "parts"] ["sums", "parts"] (aj qb):=L2.bw
theorem EW (T:Tx K mg a):aW P w K mg base dQ 1 a.Ak a.AM ["sums", "parts"] (Nb):=by
 refine T.Ax.ok C4 (λvs H Q E h=>?_) (λbO A outer s H vs Q E hr h=>?_)
 ·obtain ⟨_,_,_,_,rfl,_⟩:=h;rfl
 ·have nd:=C4.nd;have hu:=hr.units;obtain ⟨l,a,ns,ps,rfl,hl,ha,en,bD,q⟩:=h;refine ⟨_,(xU (xu (xq (xf (qp rfl rfl) (by rfl) T.iP yO (xP (xR (wc (own:=["total", "part"]) (caps:=[]) rfl (show aD ["total", "part"] [] ["sums", "parts"] (aj qb) _ from L2.b8) (iu rfl rfl T.kY (xP (xR (pv 0) (xR (pv 1) xW rfl) rfl))) (λ_ _ _ _=>(wE (n:=2) rfl rfl (xY (xX (i:=0) (show List.Nodup (["total", "part"]:List Str) from by decide +kernel) rfl rfl) (xY (xX (i:=1) (show List.Nodup (["total", "part"]:List Str) from by decide +kernel) rfl rfl) wD)))) (λ_ _ _ _=>wP) (λ_ _ _ _=>(wf cR (pv 0) (xi (xo rfl) (pv 1) xS (λ_ _=>rfl)) (av _)))) xW rfl)))))),?_⟩;have line:=bf;refine (zr rfl (zr rfl ⟨l,a,rfl,⟨_,aB.of hl⟩,⟨_,aB.of ha.l⟩,?_⟩));refine jb (K:=K) (a:=l) (b:=a) (xs:=List.map V.int ns) (ys:=ps.map λa=>V.ref a.1) (by rw [zA,zA,en]) (λi τ acc H5=>(∃ t0 t1,τ=[t0,t1])/\acc=((((ns.zip (ps.map (·.2))).take i).map λp=>decide (p.1<=p.2.m))).map V.bl/\ay H H5) ⟨⟨_,_,rfl⟩,rfl,ay.refl _⟩ (by rw [zA];omega) ?_ ?_ ?_
  ·rintro i τ acc H5 ⟨_,rfl,sm⟩;refine ⟨?_,aB.of (sm _ _ hl),aB.of (sm _ _ ha.l)⟩;rw [zA,zA,zR];omega
  ·rintro i x y z τ acc H5 C hx hy hz ⟨⟨t0,t1,rfl⟩,rfl,sm⟩ hC;obtain ⟨x2,ZP,rfl⟩:=wF hx;obtain ⟨r,hr,rfl⟩:=wF hy;have jz:=sm.trans (xT (o:=HO.tup [V.int x2,V.ref r.1]) hz);refine (JN xQ ?_);refine (zr rfl (zr rfl (bH (jz _ _ (ha.each r (zC hr))) rfl (aG rfl rfl (hC _ _ _ ⟨⟨_,_,rfl⟩,?_,jz⟩)))));rw [xv (cW ZP (qC hr)),zB,zB];rfl
  ·rintro τ acc H5 ⟨⟨t0,t1,rfl⟩,rfl,sm⟩ lc kJ;refine ⟨lc,zr rfl ⟨aB.of xQ,?_⟩⟩;have e:(List.map V.int ns).length=(ns.zip (ps.map (·.2))).length:=by rw [zA,fY (by rw [zA,en])]
   rw [e,zd,ym];exact q _ (sm.trans (xT kJ))
theorem Ew:aF ["book", "loads", "wants", "thing", "rows", "straight", "left", "came"] ["book", "loads", "wants", "thing"] (aj wj):=L2.bw
theorem Gx (T:Tx K mg a):aW P w K mg base dQ 6 a.AX a.BS ["book", "loads", "wants", "thing"] (Ks):=by
 have Gb:=Fe P w base T;have Fb:=EG P w base T;have Gc:=Ff P w base T;have Ih:=IF P w base T;have Dw:=EW P w base T;refine T.Bt.ok Ew (λvs H Q E h=>?_) (λbO A outer s H vs Q E hr h=>?_)
 ·obtain ⟨_,_,_,_,_,_,_,_,_,_,rfl,_⟩:=h;rfl
 ·have nd:=Ew.nd;have hu:=hr.units;obtain ⟨b,ll,lw,v,aa,tr,tm,ps,ls,ws,rfl,hb,gd,nF,hl,hw,bD,bX,dt,eB,q0,q1⟩:=h;refine bP ?_;intro Y
  let B0:Bk Y ((af wj).drop 5):=⟨_,(xU (xl (xx (@PW.pt _ _ _ (qM (wN (wQ (xZ Dw (hr.mono (by decide)) rfl T.Ds T.Dt T.Du .nil aq (xP (xR (pv 6) (xR (pv 1) xW rfl) rfl))))) (wx (wN (wQ (xZ Dw (hr.mono (by decide)) rfl T.Ds T.Dt T.Du .nil aq (xP (xR (pv 7) (xR (pv 2) xW rfl) rfl)))))))) (xU (xu (xq qi))) xr) (xu (xq (xf (cJ rfl) (by rfl) T.kZ yd (xP (xR (pv 7) xW rfl)))))))⟩
  let B1:Bk Y ((af wj).drop 4):=⟨_,(xU (xl (xk (i:=7) nd rfl rfl (xZ Ih (hr.mono (by decide)) rfl T.HC T.HI T.HP .nil aq (xP (xR (xf (xg rfl) (by rfl) T.aJ PySem.boot_len (xP (xR (pv 2) xW rfl))) (xR (wc (own:=["row"]) (caps:=[]) rfl (show aD ["row"] [] ["book", "loads", "wants", "thing", "rows", "straight", "left", "came"] (aj wj) _ from L2.b8) (wZ rfl (pv 4)) (λ_ _ _ _=>(xX (i:=0) (show List.Nodup (["row"]:List Str) from by decide +kernel) rfl rfl)) (λ_ _ _ _=>wP) (λ_ _ _ _=>(xi (xo rfl) (pv 0) xS (λ_ _=>rfl)))) (xR (wc (own:=["load", "want", "many"]) (caps:=[]) rfl (show aD ["load", "want", "many"] [] ["book", "loads", "wants", "thing", "rows", "straight", "left", "came"] (aj wj) _ from L2.b8) (wZ rfl (pv 5)) (λ_ _ _ _=>(wE (n:=3) rfl rfl (xY (xX (i:=0) (show List.Nodup (["load", "want", "many"]:List Str) from by decide +kernel) rfl rfl) (xY (xX (i:=1) (show List.Nodup (["load", "want", "many"]:List Str) from by decide +kernel) rfl rfl) (xY (xX (i:=2) (show List.Nodup (["load", "want", "many"]:List Str) from by decide +kernel) rfl rfl) wD))))) (λ_ _ _ _=>wP) (λ_ _ _ _=>(wS (xP (xR (pv 1) (xR (pv 2) xW rfl) rfl))))) xW rfl) rfl) rfl)))) B0.bl))⟩
  let B2:Bk Y ((af wj).drop 3):=⟨_,(xU (xl (xk (i:=6) nd rfl rfl (xZ Ih (hr.mono (by decide)) rfl T.HC T.HI T.HP .nil aq (xP (xR (xf (xg rfl) (by rfl) T.aJ PySem.boot_len (xP (xR (pv 1) xW rfl))) (xR (wc (own:=["row"]) (caps:=[]) rfl (show aD ["row"] [] ["book", "loads", "wants", "thing", "rows", "straight", "left", "came"] (aj wj) _ from L2.b8) (wZ rfl (pv 4)) (λ_ _ _ _=>(xX (i:=0) (show List.Nodup (["row"]:List Str) from by decide +kernel) rfl rfl)) (λ_ _ _ _=>wP) (λ_ _ _ _=>(xi (xo rfl) (pv 0) xS (λ_ _=>rfl)))) (xR (wc (own:=["load", "want", "many"]) (caps:=[]) rfl (show aD ["load", "want", "many"] [] ["book", "loads", "wants", "thing", "rows", "straight", "left", "came"] (aj wj) _ from L2.b8) (wZ rfl (pv 5)) (λ_ _ _ _=>(wE (n:=3) rfl rfl (xY (xX (i:=0) (show List.Nodup (["load", "want", "many"]:List Str) from by decide +kernel) rfl rfl) (xY (xX (i:=1) (show List.Nodup (["load", "want", "many"]:List Str) from by decide +kernel) rfl rfl) (xY (xX (i:=2) (show List.Nodup (["load", "want", "many"]:List Str) from by decide +kernel) rfl rfl) wD))))) (λ_ _ _ _=>wP) (λ_ _ _ _=>(wS (xP (xR (pv 0) (xR (pv 2) xW rfl) rfl))))) xW rfl) rfl) rfl)))) B1.bl))⟩
  let B3:Bk Y ((af wj).drop 2):=⟨_,(xU (xl (xx (@PW.pt _ _ _ (qM (wN (wQ (xZ Fb (hr.mono (by decide)) rfl T.EY T.E3 T.E6 .nil aq (xP (xR (pv 1) (xR (pv 2) (xR (pv 5) xW rfl) rfl) rfl))))) (wx (wN (wQ (xZ Gc (hr.mono (by decide)) rfl T.FO T.FT T.FY .nil aq (xP (xR (pv 0) (xR (pv 1) (xR (pv 2) (xR (pv 4) xW rfl) rfl) rfl) rfl)))))))) (xU (xu (xq qi))) xr) B2.bl))⟩
  refine ⟨_,(xU (xl (xx (wN (wQ (xZ Gb (hr.mono (by decide)) rfl T.FN T.FS T.FX .nil aq (xP (xR (pv 0) (xR (pv 1) (xR (pv 2) (xR (pv 3) xW rfl) rfl) rfl) rfl))))) (xU (xu (xq qi))) xr) (xl (wG (pv 3) (wE (n:=2) rfl rfl (xY (xX (i:=4) nd rfl rfl) (xY (xX (i:=5) nd rfl rfl) wD)))) B3.bl))),?_⟩;have line:=bf;have sX:=gd.eB;rw [zA] at sX;refine (zr rfl (zr rfl (zr rfl (zr rfl (tR b ll lw v aa tr tm ps ls ws ⟨rfl,hb,sX,hl,hw,bD,bX,dt,eB,λH1 s1=>(zr rfl ?_)⟩)))));cases ef:ck H ps.length ls.length ws.length v with
  | false=>exact ak rfl (q0 ef _ s1)
  | true=>
  obtain ⟨p,lr,lt,xs,ts,rfl,hp,ok⟩:=j8 ef eB sX bD bX;have q:=q1 p lr lt xs ts rfl hp ok;have PX:=ok.t;have ln:=ok.n;have YK:=ok.l;have YJ:=ok.w;refine aA rfl ?_;refine (zr rfl (JN (s1 _ _ hp.p) ?_));refine (zr rfl (zr rfl (zr rfl ⟨ll,lw,lt,ls,ws,ts,rfl,hl.same s1,hw.same s1,s1 _ _ hp.ls,λx hx=>s1 _ _ (hp.ones x hx),PX,ok.ones,λH2 s2=>(zr rfl ?_)⟩)));have uF:=s1.trans s2;have em:(ts.map (·.2)).map (λx=>[x.k,x.j])=ts.map λx=>[x.2.k,x.2.j]:=by rw [zz];rfl
  by_cases Lb:(ts.map λx=>[x.2.k,x.2.j]).Nodup
  rotate_left
  ·have:=q _ uF;rw [show bV aa (ps.map (·.2)) (ls.map (·.2)) (ws.map (·.2)) (xs.map (·.r)) (ts.map (·.2))=none by unfold bV;rw [em,if_neg Lb]] at this;exact ak (by rw [decide_eq_false Lb];rfl) (ak rfl this)
  rw [show bV aa (ps.map (·.2)) (ls.map (·.2)) (ws.map (·.2)) (xs.map (·.r)) (ts.map (·.2))=bW aa (ps.map (·.2)) (ls.map (·.2)) (ws.map (·.2)) (xs.map (·.r)) (ts.map (·.2)) by unfold bV;rw [em,if_pos Lb]] at q;rw [decide_eq_true Lb,zu];cases c1:dj (ls.map (·.2)) (ws.map (·.2)) (ts.map (·.2)) with
  | false=>
   have:=q _ uF;rw [show bW aa (ps.map (·.2)) (ls.map (·.2)) (ws.map (·.2)) (xs.map (·.r)) (ts.map (·.2))=none by unfold bW;rw [c1];rfl] at this;exact ak rfl (ak rfl this)
  | true=>
  refine aA rfl (zr rfl (zr rfl (zr rfl (zr rfl (aaJ b ll lw lr aa tr tm ps ls ws xs ⟨rfl,hb.same uF,gd,nF,hl.same uF,hw.same uF,YK,YJ,uF _ _ hp.lr,λx hx=>(hp.rows x hx).same uF,ln,λx hx=>⟨(ok.rows x hx).bl,(ok.rows x hx).cl⟩,λH3 s3=>(zr rfl ?_)⟩)))));have vW:=uF.trans s3;cases c2:cV aa (ls.map (·.2)) (ws.map (·.2)) ((ps.map (·.2)).zip (xs.map (·.r))) (List.replicate aa.length 0) with
  | false=>
   have:=q _ vW;rw [show bW aa (ps.map (·.2)) (ls.map (·.2)) (ws.map (·.2)) (xs.map (·.r)) (ts.map (·.2))=none by unfold bW;rw [c1,c2];rfl] at this;exact ak rfl this
  | true=>
  refine aA rfl ?_;refine (zr rfl ⟨ll,zr rfl ⟨.inl (aB.of (vW _ _ hl.l)),?_⟩⟩);refine (zr rfl ⟨lr,rfl,⟨_,aB.of (vW _ _ hp.lr)⟩,?_⟩);refine (let W13:IC:=λi τ acc H5=>(∃ t0,τ=[t0])/\acc=(xs.take i).map (λx=>V.ref x.b)/\H3=H5;wT (K:=K) (a:=lr) (xs:=xs.map λx=>V.ref x.a) W13 ⟨⟨_,rfl⟩,rfl,rfl⟩ (by rw [zA];omega) ?_ ?_ ?_)
  ·rintro i τ acc H5 ⟨_,rfl,rfl⟩;exact ⟨by rw [zA,zR];omega,aB.of (vW _ _ hp.lr)⟩
  ·rintro i v τ acc H5 C hv ⟨⟨t0,rfl⟩,rfl,rfl⟩ hC;obtain ⟨x,hx,rfl⟩:=wF hv;refine (zr rfl (bH (vW _ _ (hp.rows x (zC hx)).a) rfl (hC _ _ _ ⟨⟨_,rfl⟩,?_,rfl⟩)));rw [xv hx,zB];rfl
  rintro τ acc H5 ⟨⟨t0,rfl⟩,rfl,rfl⟩ lq Sb;rw [zA,zd];have sK:=xT (o:=HO.lst (xs.map λx=>V.ref x.b)) Sb;have T6:upd H3 lq (HO.lst (xs.map λx=>V.ref x.b)) lq=some (.lst (xs.map λx=>V.ref x.b)):=xQ;have uE:=vW.trans sK;generalize upd H3 lq (HO.lst (xs.map λx=>V.ref x.b))=H4 at sK T6 uE ⊢;refine (zr rfl ⟨lt,rfl,⟨_,aB.of (uE _ _ hp.ls)⟩,?_⟩);refine (let W14:IC:=λi τ acc H5=>∃ qs:List (Addr×Int×Int),(∃ t0 t1 t2,τ=[t0,t1,t2])/\acc=qs.map (λx=>V.ref x.1)/\(∀ x∈qs,H5 x.1=some (.tup [.int x.2.1,.int x.2.2])/\0<=x.2.1/\x.2.1 < (ls.length:Int))/\qs.map (·.2)=(ts.take i).map (λx=>(x.2.k,x.2.m))/\ay H4 H5;wT (K:=K) (a:=lt) (xs:=ts.map λx=>V.ref x.1) W14 ⟨[],⟨_,_,_,rfl⟩,rfl,nofun,rfl,ay.refl _⟩ (by rw [zA];omega) ?_ ?_ ?_)
  ·rintro i τ acc H5 ⟨qs,_,rfl,_,eq,sm⟩;refine ⟨?_,aB.of (sm _ _ (uE _ _ hp.ls))⟩;have:=congrArg List.length eq;rw [zA,zA,zR] at this;rw [zA];omega
  ·rintro i v τ acc H5 C hv ⟨qs,⟨t0,t1,t2,rfl⟩,rfl,kq,eq,sm⟩ hC;obtain ⟨x,hx,rfl⟩:=wF hv;have mx:=zC hx;refine (MW (sm _ _ (uE _ _ (hp.ones x mx))) ?_);refine (zr rfl (zr rfl ⟨by show 2<=_;omega,λu hu=>?_⟩));have su:=xT (o:=HO.tup [V.int x.2.k,V.int x.2.m]) hu;refine hC _ _ _ ⟨qs++[(u,x.2.k,x.2.m)],⟨_,_,_,rfl⟩,by rw [zB];rfl,λy hy=>?_,?_,sm.trans su⟩
   ·rcases zV.mp hy with h | h
    ·exact ⟨su _ _ (kq y h).1,(kq y h).2⟩
    ·rw [zE.mp h];exact ⟨xQ,(ok.ones x mx).k⟩
   ·rw [zB,eq,xv hx,zB];rfl
  rintro τ acc H5 ⟨qs,⟨t0,t1,t2,rfl⟩,rfl,kq,eq,sm⟩ lp Rb;rw [zA,zd] at eq;have sP:=sm.trans (xT (o:=HO.lst (qs.map λx=>V.ref x.1)) Rb);have kp:upd H5 lp (HO.lst (qs.map λx=>V.ref x.1)) lp=some (.lst (qs.map λx=>V.ref x.1)):=xQ;have T7:∀ x∈qs,upd H5 lp (HO.lst (qs.map λx=>V.ref x.1)) x.1=some (.tup [.int x.2.1,.int x.2.2])/\0<=x.2.1/\x.2.1 < (ls.length:Int):=λx hx=>⟨xT Rb _ _ (kq x hx).1,(kq x hx).2⟩;have RV:=uE.trans sP;generalize upd H5 lp (HO.lst (qs.map λx=>V.ref x.1))=H6 at sP kp T7 RV ⊢;refine ⟨ls.length,lq,lp,xs.map (λx=>(x.b,x.r.bg)),qs,by rw [zA];rfl,YK,by rw [zz];exact sP _ _ T6,λy hy=>?_,by rw [zA];omega,kp,T7,by have:=congrArg List.length eq;rw [zA,zA] at this;omega,λl1 H7 LH sD k1=>?_⟩
  ·obtain ⟨x,hx,rfl⟩:=zX.mp hy;exact ⟨RV _ _ (hp.rows x hx).b,(ok.rows x hx).bl⟩
  rw [zz,eq] at k1;have eF:eE ls.length (List.map ((λx:Addr×List Int=>x.2) ∘ λx:RA=>(x.b,x.r.bg)) xs) (ts.map λx=>(x.2.k,x.2.m))=eU ls.length (xs.map (·.r)) (ts.map (·.2)):=by unfold eU;rw [zz,zz];rfl
  rw [eF] at k1;have SR:=RV.trans sD;refine (zr rfl ⟨lw,zr rfl ⟨.inl (aB.of (SR _ _ hw.l)),?_⟩⟩);refine (zr rfl ⟨lr,rfl,⟨_,aB.of (SR _ _ hp.lr)⟩,?_⟩);refine (let W15:IC:=λi τ acc H5=>(∃ t0,τ=[t0])/\acc=(xs.take i).map (λx=>V.ref x.c)/\H7=H5;wT (K:=K) (a:=lr) (xs:=xs.map λx=>V.ref x.a) W15 ⟨⟨_,rfl⟩,rfl,rfl⟩ (by rw [zA];omega) ?_ ?_ ?_)
  ·rintro i τ acc H5 ⟨_,rfl,rfl⟩;exact ⟨by rw [zA,zR];omega,aB.of (SR _ _ hp.lr)⟩
  ·rintro i v τ acc H5 C hv ⟨⟨t0,rfl⟩,rfl,rfl⟩ hC;obtain ⟨x,hx,rfl⟩:=wF hv;refine (zr rfl (bH (SR _ _ (hp.rows x (zC hx)).a) rfl (hC _ _ _ ⟨⟨_,rfl⟩,?_,rfl⟩)));rw [xv hx,zB];rfl
  rintro τ acc H5 ⟨⟨t0,rfl⟩,rfl,rfl⟩ lq Sb;rw [zA,zd];have sK:=xT (o:=HO.lst (xs.map λx=>V.ref x.c)) Sb;have T6:upd H7 lq (HO.lst (xs.map λx=>V.ref x.c)) lq=some (.lst (xs.map λx=>V.ref x.c)):=xQ;have SQ:=SR.trans sK;generalize upd H7 lq (HO.lst (xs.map λx=>V.ref x.c))=H8 at sK T6 SQ ⊢;refine (zr rfl ⟨lt,rfl,⟨_,aB.of (SQ _ _ hp.ls)⟩,?_⟩);refine (let W16:IC:=λi τ acc H5=>∃ qs:List (Addr×Int×Int),(∃ t0 t1 t2,τ=[t0,t1,t2])/\acc=qs.map (λx=>V.ref x.1)/\(∀ x∈qs,H5 x.1=some (.tup [.int x.2.1,.int x.2.2])/\0<=x.2.1/\x.2.1 < (ws.length:Int))/\qs.map (·.2)=(ts.take i).map (λx=>(x.2.j,x.2.m))/\ay H8 H5;wT (K:=K) (a:=lt) (xs:=ts.map λx=>V.ref x.1) W16 ⟨[],⟨_,_,_,rfl⟩,rfl,nofun,rfl,ay.refl _⟩ (by rw [zA];omega) ?_ ?_ ?_)
  ·rintro i τ acc H5 ⟨qs,_,rfl,_,eq,sm⟩;refine ⟨?_,aB.of (sm _ _ (SQ _ _ hp.ls))⟩;have:=congrArg List.length eq;rw [zA,zA,zR] at this;rw [zA];omega
  ·rintro i v τ acc H5 C hv ⟨qs,⟨t0,t1,t2,rfl⟩,rfl,kq,eq,sm⟩ hC;obtain ⟨x,hx,rfl⟩:=wF hv;have mx:=zC hx;refine (MW (sm _ _ (SQ _ _ (hp.ones x mx))) ?_);refine (zr rfl (zr rfl ⟨by show 2<=_;omega,λu hu=>?_⟩));have su:=xT (o:=HO.tup [V.int x.2.j,V.int x.2.m]) hu;refine hC _ _ _ ⟨qs++[(u,x.2.j,x.2.m)],⟨_,_,_,rfl⟩,by rw [zB];rfl,λy hy=>?_,?_,sm.trans su⟩
   ·rcases zV.mp hy with h | h
    ·exact ⟨su _ _ (kq y h).1,(kq y h).2⟩
    ·rw [zE.mp h];exact ⟨xQ,(ok.ones x mx).j⟩
   ·rw [zB,eq,xv hx,zB];rfl
  rintro τ acc H5 ⟨qs,⟨t0,t1,t2,rfl⟩,rfl,kq,eq,sm⟩ lp Rb;rw [zA,zd] at eq;have sP:=sm.trans (xT (o:=HO.lst (qs.map λx=>V.ref x.1)) Rb);have kp:upd H5 lp (HO.lst (qs.map λx=>V.ref x.1)) lp=some (.lst (qs.map λx=>V.ref x.1)):=xQ;have T7:∀ x∈qs,upd H5 lp (HO.lst (qs.map λx=>V.ref x.1)) x.1=some (.tup [.int x.2.1,.int x.2.2])/\0<=x.2.1/\x.2.1 < (ws.length:Int):=λx hx=>⟨xT Rb _ _ (kq x hx).1,(kq x hx).2⟩;have Ys:=SQ.trans sP;generalize upd H5 lp (HO.lst (qs.map λx=>V.ref x.1))=H9 at sP kp T7 Ys ⊢;refine ⟨ws.length,lq,lp,xs.map (λx=>(x.c,x.r.cm)),qs,by rw [zA];rfl,YJ,by rw [zz];exact sP _ _ T6,λy hy=>?_,by rw [zA];omega,kp,T7,by have:=congrArg List.length eq;rw [zA,zA] at this;omega,λl2 eX JU sD k2=>?_⟩
  ·obtain ⟨x,hx,rfl⟩:=zX.mp hy;exact ⟨Ys _ _ (hp.rows x hx).c,(ok.rows x hx).cl⟩
  rw [zz,eq] at k2;have eF:eE ws.length (List.map ((λx:Addr×List Int=>x.2) ∘ λx:RA=>(x.c,x.r.cm)) xs) (ts.map λx=>(x.2.j,x.2.m))=bU ws.length (xs.map (·.r)) (ts.map (·.2)):=by unfold bU;rw [zz,zz];rfl
  rw [eF] at k2;have gj:=Ys.trans sD;have k17:=k1;have sA:ay H7 eX:=(sK.trans sP).trans sD;have k1:=sA _ _ k1;refine (zr rfl (zr rfl ⟨l1,ll,eU ls.length (xs.map (·.r)) (ts.map (·.2)),ls,rfl,k1,hl.same gj,qR,YK,λfX Nu=>(zr rfl ?_)⟩));have Qh:=gj.trans Nu;cases c3:dS (eU ls.length (xs.map (·.r)) (ts.map (·.2))) (ls.map (·.2)) with
  | false=>
   have:=q _ Qh;rw [show bW aa (ps.map (·.2)) (ls.map (·.2)) (ws.map (·.2)) (xs.map (·.r)) (ts.map (·.2))=none by unfold bW;rw [zA,c3];simp] at this;exact ak rfl (ak rfl this)
  | true=>
  refine aA rfl (zr rfl (zr rfl ⟨l2,lw,bU ws.length (xs.map (·.r)) (ts.map (·.2)),ws,rfl,Nu _ _ k2,hw.same Qh,qR,YJ,λlI s12=>(zr rfl ?_)⟩));have SV:=Qh.trans s12;cases c4:dS (bU ws.length (xs.map (·.r)) (ts.map (·.2))) (ws.map (·.2)) with
  | false=>
   have:=q _ SV;rw [show bW aa (ps.map (·.2)) (ls.map (·.2)) (ws.map (·.2)) (xs.map (·.r)) (ts.map (·.2))=none by unfold bW;rw [zA,zA,c4];simp] at this;exact ak rfl this
  | true=>
  have:=q _ SV;rw [show bW aa (ps.map (·.2)) (ls.map (·.2)) (ws.map (·.2)) (xs.map (·.r)) (ts.map (·.2))=some (bU ws.length (xs.map (·.r)) (ts.map (·.2))).sum by unfold bW;rw [zA,zA,c1,c2,c3,c4];rfl] at this;exact aA rfl (zr rfl ⟨l2,zr rfl ⟨aB.of (s12 _ _ (Nu _ _ k2)),this⟩⟩)
theorem ES:aF ["_law_purse_here", "_law_book_here", "_law_walkers", "_law_later", "_law_walker", "_law_many", "_law_mine", "_law_at"] ["_law_purse_here", "_law_book_here", "_law_walkers", "_law_later"] (aj wn):=L2.bw
theorem GZ (T:Tx K mg a):aW P w K mg base dQ 4 a.Bo a.Cm ["_law_purse_here", "_law_book_here", "_law_walkers", "_law_later"] (Kz):=by
 have Aa:=wO P w base T;have Ii:=GX P w base T;refine T.BO.ok ES (λvs H Q E h=>?_) (λbO A outer s H vs Q E hr h=>?_)
 ·obtain ⟨_,_,_,_,_,_,_,_,rfl,_⟩:=h;rfl
 ·have nd:=ES.nd;have hu:=hr.units;obtain ⟨p,b,j,aa,tr,tm,ps,n,rfl,hj,hb,gd,n1,n2,hp,q⟩:=h;refine bP ?_;intro Y
  let B0:Bk Y (nb (af wn) 5):=⟨_,(xU (xu (xk (i:=7) nd rfl rfl (xm wW (xi (xh rfl) (pv 6) (xZ Aa (hr.mono (by decide)) rfl T.Ab T.Ac T.Ae .nil aq (xP (xR (pv 0) (xR (xf (xg rfl) (by rfl) T.aJ PySem.boot_len (xP (xR (pv 6) xW rfl))) xW rfl) rfl))) (λ_ _=>rfl)) (xZ Aa (hr.mono (by decide)) rfl T.Ab T.Ac T.Ae .nil aq (xP (xR (pv 0) (xR xS xW rfl) rfl)))))))⟩
  let B1:Bk Y ((af wn).drop 5):=⟨_,(xU (xl (xx (@PW.pt _ _ _ (dH (xp (iz hu) (pv 6) (xw qU) (av _)) (dc (xp qA (xZ Aa (hr.mono (by decide)) rfl T.Ab T.Ac T.Ae .nil aq (xP (xR (pv 0) (xR xS xW rfl) rfl))) xS (av _))))) B0.ps xr) (xu (xq (wS (xP (xR (pv 4) (xR (pv 7) (xR (pv 5) xW rfl) rfl) rfl)))))))⟩
  let B2:Bk Y ((af wn).drop 4):=⟨_,(xU (xl (xk (i:=7) nd rfl rfl (xZ Ii (hr.mono (by decide)) rfl T.HD T.HJ T.HQ .nil aq (xP (xR (pv 0) (xR (pv 1) (xR (pv 3) xW rfl) rfl) rfl)))) B1.bl))⟩
  let B3:Bk Y ((af wn).drop 3):=⟨_,(xU (xl (cG (ix:=6) nd rfl rfl (own:=["_law_meeting"]) (caps:=[4]) rfl (show aD ["_law_meeting"] [4] ["_law_purse_here", "_law_book_here", "_law_walkers", "_law_later", "_law_walker", "_law_many", "_law_mine", "_law_at"] (aj wn) _ from L2.b8) (iw rfl (xi (xo rfl) (pv 1) xS (λ_ _=>rfl))) (λ_ _ _ _=>(xX (i:=0) (show List.Nodup (["_law_meeting", "_law_walker"]:List Str) from by decide +kernel) rfl rfl)) (λ_ _ _ _=>nG (xp (dI rfl) (pv 1) (qQ (jA rfl) (pv 0) qh (qX xS)) rfl)) (λ_ _ _ _=>(xi (xo rfl) (pv 0) xS (λ_ _=>rfl)))) B2.bl))⟩
  let B4:Bk Y (nb (af wn) 2):=⟨_,(xU (xu (xk (i:=5) nd rfl rfl (xm wR xS (xZ Aa (hr.mono (by decide)) rfl T.Ab T.Ac T.Ae .nil aq (xP (xR (pv 0) (xR xS xW rfl) rfl)))))))⟩
  let B5:Bk Y ((af wn).drop 2):=⟨_,(xU (xl (xx (xp qA (xZ Aa (hr.mono (by decide)) rfl T.Ab T.Ac T.Ae .nil aq (xP (xR (pv 0) (xR xS xW rfl) rfl))) xS (av _)) B4.ps xr) B3.bl))⟩
  let B6:Bk Y ((af wn).drop 1):=⟨_,(xU (xl (xk (i:=5) nd rfl rfl (xm wR xS (xZ Aa (hr.mono (by decide)) rfl T.Ab T.Ac T.Ae .nil aq (xP (xR (pv 0) (xR xS xW rfl) rfl))))) B5.bl))⟩
  refine ⟨_,(xU (xl (xk (i:=4) nd rfl rfl (xZ Aa (hr.mono (by decide)) rfl T.Ab T.Ac T.Ae .nil aq (xP (xR (pv 0) (xR (pv 2) xW rfl) rfl)))) B6.bl)),?_⟩;have line:=bf;have lU:(2:Int) ^ 200 > 10000:=by decide
  have Zg:=gd.len;refine (zr rfl (zr rfl ⟨p,zr rfl ⟨by omega,by omega,hp,λw0 H1 w00 w01 g1=>?_⟩⟩));refine (zr rfl ⟨p,zr rfl ⟨by decide,by decide,g1.2,λd H2 d0 d1 g2=>(aG rfl rfl ?_)⟩⟩);have g02:=g1.trans g2;refine (zr rfl ⟨p,zr rfl ⟨by decide,by decide,g2.2,λe H3 e0 e1 g3=>⟨rfl,zr rfl ?_⟩⟩⟩);have LR:=g02.trans g3;refine gn (fun σ H'=>∃ m,σ=[some (.ref p),some (.ref b),some (.int n),some (.int j),some (.int w0),some (.int m),none,none]/\1<=m/\m<=99/\Go p H H') ?_ (λc k=>?_) (λc=>(zr rfl ⟨by omega,by omega,LR⟩))
  rotate_left
  ·exact (zr rfl ⟨p,zr rfl ⟨by decide,by decide,g3.2,λf H4 f0 f1 g4=>(aG rfl rfl (k _ _ (zr rfl ⟨by omega,by omega,LR.trans g4⟩)))⟩⟩)
  rintro σ H4 ⟨m,rfl,m1,Y5,g4⟩;have Jv:=hb.aS (g4.aS hp);refine (zr rfl (bH Jv.book rfl ⟨tm,rfl,⟨_,aX.of Jv.meets⟩,?_⟩));refine (let W17:IC:=λi τ acc H5=>∃ ts:List Int,(∃ t0,τ=[t0,some (.int w0)])/\acc=ts.map V.int/\ts.length<=i/\ay H4 H5;kU (K:=K) (a:=tm) (xs:=ps.map λa=>V.ref a.1) W17 ⟨[],⟨_,rfl⟩,rfl,zJ _,ay.refl _⟩ (by rw [zA];omega) ?_ ?_ ?_)
  ·rintro i τ acc H5 ⟨ts,_,rfl,lt,sm⟩;exact ⟨by rw [zA];exact lt,aX.of (sm _ _ Jv.meets)⟩
  ·rintro i v τ acc H5 C hv ⟨ts,⟨t0,rfl⟩,rfl,lt,sm⟩ hC;obtain ⟨r,hr,rfl⟩:=wF hv;have Jr:=sm _ _ (Jv.rows r (zC hr));refine (zr rfl (zr rfl ⟨2,rfl,r.1,zr rfl ⟨aX.of Jr,(by show ¬ (HT.bY 4 0 none=0/\HT.bY 4 4 (some 2)=4);decide),λp2 Z5=>?_⟩⟩));have s2:=xT (o:=HO.tup [V.int r.2.lo,V.int r.2.hi]) Z5;refine ⟨p2,[.int r.2.lo,.int r.2.hi],rfl,.inr (aX.of xQ),rfl,rfl,zr rfl (tF (λc=>?_) λc=>hC _ _ _ ⟨ts,⟨_,rfl⟩,rfl,by omega,sm.trans s2⟩)⟩;exact (zr rfl (bH (s2 _ _ Jr) rfl (hC _ _ _ ⟨ts++[r.2.t],⟨_,rfl⟩,by rw [zB];rfl,by rw [zU];show ts.length + 1<=_;omega,sm.trans s2⟩)))
  rintro τ acc H5 ⟨ts,⟨t0,rfl⟩,rfl,lt,sm⟩ lm Sd;rw [zA] at lt;have s5:=sm.trans (xT (o:=HO.lst (ts.map V.int)) Sd);have k5:upd H5 lm (HO.lst (ts.map V.int)) lm=some (.lst (ts.map V.int)):=xQ;have g5:=g4.same s5;have YS:lm≠p:=(g4.same sm).2.ne Sd;generalize upd H5 lm (HO.lst (ts.map V.int))=H6 at s5 k5 g5 ⊢;have MK:=Jv.same s5;refine (zr rfl (zr rfl (zr rfl (ex7 p b j aa tr tm ps ⟨rfl,hj,MK,gd,g5.2,λat' H7 a0 a1 g7=>?_⟩))));have MN:=g5.trans g7;have k7:=g7.1 lm _ YS k5;refine (zr rfl ⟨zx _,λl0 qy=>⟨lm,l0,zr rfl ⟨rfl,aB.of (xT qy _ _ k7),aB.of xQ,zr rfl ?_⟩⟩⟩);have U8:=MN.new (o:=HO.lst []) qy;have k8:=xT (o:=HO.lst []) qy _ _ k7;generalize upd H7 l0 (HO.lst [])=H8 at U8 k8 ⊢;refine N5 (fun σ H'=>∃ x,σ=[some (.ref p),some (.ref b),some (.int n),some (.int j),some (.int w0),some (.int m),some (.ref lm),some (.int x)]/\Go p H H') ?_ (λc k=>?_) (λc=>(zr rfl U8))
  ·rintro σ H9 ⟨x,rfl,g9⟩;exact (zr rfl (zr rfl (zr rfl ⟨by show 3<=_;omega,λt ht=>q t ⟨w0,x,m⟩ _ (g9.new ht) xQ w00 w01 m1 Y5⟩)))
  refine (zr rfl ⟨p,zr rfl ⟨by decide,by decide,U8.2,λd2 H9 Sl Vg g9=>⟨rfl,zr rfl (gn _ k (λc2 k2=>?_) (λc2=>(zr rfl (U8.trans g9))))⟩⟩⟩);have k9:=g9.1 lm _ YS k8;have lts:1<=ts.length:=by
   cases ts with
   | nil=>cases c
   | cons _ _=>simp
  refine (zr rfl (zr rfl (zr rfl ⟨lm,zr rfl ⟨.inl (aB.of k9),p,zr rfl ⟨by rw [zA];omega,by rw [zA];omega,g9.2,λd3 eX d30 d31 cX=>?_⟩⟩⟩)));rw [zA] at d31;obtain ⟨z,rfl⟩:=zm d30;have hz:z < ts.length:=by omega
  refine (bL (cX.1 lm _ YS k9) (wA (v:=V.int ts[z]) (by simp [hz])) (zr rfl ⟨p,zr rfl ⟨by decide,by decide,cX.2,λd4 fX d40 d41 kO=>(aG rfl rfl (k2 _ _ (zr rfl (U8.trans (g9.trans (cX.trans kO))))))⟩⟩))
theorem EA:aF ["_law_script", "_law_book_here", "_law_head", "_law_first", "_law_later", "_law_many", "_law_walkers", "_law_some"] ["_law_script", "_law_book_here", "_law_head", "_law_first", "_law_later"] (aj qE):=L2.bw
theorem GA (T:Tx K mg a):aW P w K mg base dQ 5 a.A9 a.BW ["_law_script", "_law_book_here", "_law_head", "_law_first", "_law_later"] (vO K):=by
 have Bs:=Db P w base T;have Aa:=wO P w base T;have Ik:=GZ P w base T;refine T.Bx.ok EA (λvs H Q E h=>?_) (λbO A outer s H vs Q E hr h=>?_)
 ·obtain ⟨_,_,_,_,_,_,_,_,_,_,_,rfl,_⟩:=h;rfl
 ·have nd:=EA.nd;have hu:=hr.units;obtain ⟨sa,b,hd,j,aa,tr,tm,ps,ns,n,H0,rfl,Z1,Tt,h0,Yi,NU,hj,hb,gd,r1,Qo,hp,q⟩:=h;refine bP ?_;intro Y
  let B0:Bk Y ((af qE).drop 4):=⟨_,(xU (xl (xx (@PW.pt _ _ _ (dH (xp fG (pv 5) xS (av _)) (dc (xp qA (xZ Aa (hr.mono (by decide)) rfl T.Ab T.Ac T.Ae .nil aq (xP (xR (pv 2) (xR xS xW rfl) rfl))) xS (av _))))) (xU (xu (wG (xi (xh rfl) (pv 7) xS (λ_ _=>rfl)) (wy (pv 7) xS wJ)))) xr) (xu (xq (pv 7)))))⟩
  let B1:Bk Y ((af qE).drop 3):=⟨_,(xU (xl (cG (ix:=7) nd rfl rfl (own:=["_law_k"]) (caps:=[1,6,4,0,3]) rfl (show aD ["_law_k"] [1,6,4,0,3] ["_law_script", "_law_book_here", "_law_head", "_law_first", "_law_later", "_law_many", "_law_walkers", "_law_some"] (aj qE) _ from L2.b8) (wV rfl T.aU (xP (xR (pv 5) xW rfl))) (λ_ _ _ _=>(xX (i:=0) (show List.Nodup (["_law_k", "_law_book_here", "_law_walkers", "_law_later", "_law_script", "_law_first"]:List Str) from by decide +kernel) rfl rfl)) (λ_ _ _ _=>wP) (λ_ _ _ _=>(xZ Ik (hr.mono (by decide)) rfl T.HF T.HL T.HS .nil aq (xP (xR (xZ Bs (hr.mono (by decide)) rfl T.Cr T.Cs T.Ct .nil aq (xP (xR (pv 4) (xR (xm wR (pv 5) (xm cH xS (pv 0))) xW rfl) rfl))) (xR (pv 1) (xR (pv 2) (xR (pv 3) xW rfl) rfl) rfl) rfl))))) B0.bl))⟩
  let B2:Bk Y ((af qE).drop 2):=⟨_,(xU (xl (xk (i:=6) nd rfl rfl (xi (xh rfl) (xw (xP (xR (xf (xg rfl) (by rfl) T.aJ PySem.boot_len (xP (xR (xi (xo rfl) (pv 1) xS (λ_ _=>rfl)) xW rfl))) (xR (xf (dD rfl) (by rfl) T.lu yc (xP (xR xS (xR (xf (xg rfl) (by rfl) T.aJ PySem.boot_len (xP (xR (xi (xo rfl) (pv 1) xS (λ_ _=>rfl)) xW rfl))) xW rfl) rfl))) xW rfl) rfl))) (xZ Aa (hr.mono (by decide)) rfl T.Ab T.Ac T.Ae .nil aq (xP (xR (pv 2) (xR xS xW rfl) rfl))) (λ_ _=>rfl))) B1.bl))⟩
  let B3:Bk Y ((af qE).drop 1):=⟨_,(xU (xl (xx (xp qA (xZ Aa (hr.mono (by decide)) rfl T.Ab T.Ac T.Ae .nil aq (xP (xR (pv 2) (xR xS xW rfl) rfl))) xS (av _)) (xU (xu (xk (i:=5) nd rfl rfl xS))) xr) B2.bl))⟩
  refine ⟨_,(xU (xl (xk (i:=5) nd rfl rfl (xZ Aa (hr.mono (by decide)) rfl T.Ab T.Ac T.Ae .nil aq (xP (xR (pv 2) (xR xS xW rfl) rfl)))) B3.bl)),?_⟩;have line:=bf;have lU:(2:Int) ^ 200 > 10000:=by decide
  refine (zr rfl ⟨hd,zr rfl ⟨by decide,by decide,hp,λd H1 d0 d1 g1=>?_⟩⟩);refine (zr rfl ⟨hd,zr rfl ⟨by decide,by decide,g1.2,λe H3 e0 e1 g3=>⟨rfl,zr rfl ?_⟩⟩⟩);have LR:=g1.trans g3;refine gn (fun σ H'=>∃ m:Nat,σ=[some (.ref sa),some (.ref b),some (.ref hd),some (.int n),some (.int j),some (.int m),none,none]/\m<=8/\Go hd H H') ?_ (λc k=>k _ _ ⟨8,rfl,by omega,LR⟩) (λc=>by obtain ⟨m,rfl⟩:=zm d0;exact ⟨m,rfl,by omega,LR⟩);rintro σ H4 ⟨m,rfl,m8,g4⟩;have Jv:=hb.aS (g4.aS hp);have rl:(aa.map V.int).length=aa.length:=zA _;refine (zr rfl (bH Jv.book rfl ⟨tr,zr rfl ⟨.inr (aX.of Jv.aa),zr rfl (bH Jv.book rfl ⟨tr,zr rfl ⟨.inr (aX.of Jv.aa),lV rfl ⟨by show 2<=_;omega,λu hu=>(zr rfl ⟨hd,zr rfl ⟨by decide,by decide,(g4.new hu).2,λd2 H6 Sl Vg g6=>?_⟩⟩)⟩⟩⟩)⟩⟩));have JW:=(g4.new (o:=HO.lst [V.int (((aa.map V.int).length:Nat):Int),V.int (if (((aa.map V.int).length:Nat):Int) < 2 then (((aa.map V.int).length:Nat):Int) else 2)]) hu).trans g6;have nu:u≠hd:=g4.2.ne hu;have ku:=g6.1 u _ nu xQ;obtain ⟨nw,hw1,hw2,O9⟩:∃ nw:Nat,1<=nw/\nw<=aa.length/\bQ [V.int (((aa.map V.int).length:Nat):Int),V.int (if (((aa.map V.int).length:Nat):Int) < 2 then (((aa.map V.int).length:Nat):Int) else 2)] d2=some (V.int nw):=by
   rw [rl];obtain rfl | rfl:d2=0\/d2=1:=by omega
   ·exact ⟨aa.length,r1,zJ _,rfl⟩
   ·refine ⟨min aa.length 2,by omega,by omega,?_⟩;show some (V.int _)=some (V.int _);congr 2;split <;> omega
  refine (bL ku O9 ?_);have MK:=hb.aS (JW.aS hp);have pu6:=JW.2;refine (zr rfl (zr rfl ⟨by omega,by omega,?_⟩));refine (let W18:IC:=λi τ acc H5=>∃ ss:List (Addr×S3),(∃ t0,τ=[t0,some (.ref b),some (.int nw),some (.int j),some (.ref sa),some (.int n)])/\acc=ss.map (λa=>V.ref a.1)/\ss.length=i/\(∀ a∈ss,H5 a.1=some (.tup [.int a.2.w,.int a.2.t,.int a.2.m]))/\(∀ a∈ss,0<=a.2.w/\a.2.w < aa.length/\1<=a.2.m/\a.2.m<=99)/\ay H6 H5;fE (lo:=0) (m:=m) W18 ⟨[],⟨_,rfl⟩,rfl,rfl,nofun,nofun,ay.refl _⟩ (by omega) ?_ ?_ ?_)
  ·rintro i τ acc H5 ⟨ss,_,rfl,ls,_⟩;rw [zA,ls];exact zJ _
  ·rintro i τ acc H5 C hi ⟨ss,⟨t0,rfl⟩,rfl,ls,ks,bs,sm⟩ hC;have Z0:aB K H5 sa (List.map V.int ns):=aB.but Z1 h0 λb u nb e=>sm _ _ (JW.1 _ _ nb (Yi _ _ e));refine (zr rfl (zr rfl (zr rfl (aG rfl rfl ⟨.inl ⟨by decide,by decide⟩,aG rfl rfl ⟨sa,ns,n + 2 * i,?_,Z0,by omega,λpz H7 Z3 pu s7=>?_⟩⟩))))
   ·show [V.ref sa,V.int ((n:Int) + 2 * (0 + (i:Int)))]=_;rw [show ((n:Int) + 2 * (0 + (i:Int)))=((n + 2 * i:Nat):Int) by omega]
   refine (zr rfl (zr rfl (zr rfl (ex8 pz b j aa tr tm ps nw ⟨rfl,hj,(MK.same sm).same s7,gd,hw1,by omega,pu,λt s1 H8 g8 kt w0 w1 m1 m9=>?_⟩))));have s8:=dm Z3 s7 g8.1;refine hC _ _ _ ⟨ss++[(t,s1)],⟨_,rfl⟩,by rw [zB];rfl,by rw [zU,ls];rfl,λa ha=>?_,λa ha=>?_,sm.trans s8⟩
   ·rcases zV.mp ha with h | h
    ·exact s8 _ _ (ks a h)
    ·rw [zE.mp h];exact kt
   ·rcases zV.mp ha with h | h
    ·exact bs a h
    ·rw [zE.mp h];exact ⟨w0,by show s1.w < _;omega,m1,m9⟩
  rintro τ acc H5 ⟨ss,⟨t0,rfl⟩,rfl,ls,ks,bs,sm⟩ l hl;have s5:=sm.trans (xT (o:=HO.lst (ss.map λa=>V.ref a.1)) hl);have kl:upd H5 l (HO.lst (ss.map λa=>V.ref a.1)) l=some (.lst (ss.map λa=>V.ref a.1)):=xQ;have Zm:∀ a∈ss,upd H5 l (HO.lst (ss.map λa=>V.ref a.1)) a.1=some (.tup [.int a.2.w,.int a.2.t,.int a.2.m]):=λa ha=>xT hl _ _ (ks a ha);have g5:=JW.same s5;have nl:l≠hd:=(JW.same sm).2.ne hl;have qy:H l=none:=by
   cases z:H l with
   | none=>rfl
   | some o=>rw [sm _ _ (JW.1 _ _ nl z)] at hl;cases hl
  generalize upd H5 l (HO.lst (ss.map λa=>V.ref a.1))=H7 at s5 kl Zm g5 ⊢;refine (zr rfl (aG rfl rfl (zr rfl ?_)));refine N5 (fun σ H'=>∃ ss:List (Addr×S3),(∃ v6,σ=[some (.ref sa),some (.ref b),some (.ref hd),some (.int n),some (.int j),some (.int m),v6,some (.ref l)])/\aE H' l ss/\ss.length<=8/\(∀ a∈ss,0<=a.2.w/\a.2.w < aa.length/\1<=a.2.m/\a.2.m<=99)/\Go hd H H') ?_ (λc k=>?_) (λc=>⟨ss,⟨_,rfl⟩,⟨kl,Zm⟩,by omega,bs,g5⟩)
  ·rintro σ H9 ⟨ss,⟨v6,rfl⟩,hs,l8,bs,g9⟩;exact (zr rfl (q l ss H9 qy g9 hs l8 bs))
  refine (zr rfl ⟨hd,zr rfl ⟨by decide,by decide,g5.2,λd3 H8 d30 d31 g8=>⟨rfl,zr rfl ?_⟩⟩⟩);have Wa:=g8.1 l _ nl kl;have Zl:∀ a∈ss,H8 a.1=some (.tup [.int a.2.w,.int a.2.t,.int a.2.m]):=λa ha=>g8.aS g5.2 _ _ (Zm a ha);refine gn _ k (λc2 k2=>?_) (λc2=>⟨ss,⟨_,rfl⟩,⟨Wa,Zl⟩,by omega,bs,g5.trans g8⟩);have m1:1 < m:=by have:=of_decide_eq_true c;omega
  have a0:(ss.map λa=>V.ref a.1)[0]?=some (V.ref (ss[0]'(by omega)).1):=by rw [zD,zF (by omega)];rfl
  refine (zr rfl (bL Wa (wA (j:=0) a0) (zr rfl ⟨l,_,_,1,rfl,rfl,Wa,qK (k:=1) (by rw [zA];omega),k2 _ _ ⟨ss.set 1 (ss[0]'(by omega)),⟨_,rfl⟩,⟨by rw [xQ,yP],λa ha=>?_⟩,by rw [yI];omega,λa ha=>?_,(g5.trans g8).sJ qy nl⟩⟩)))
  ·have Wy:a∈ss:=by rcases yE ha with h | h;exact h;rw [h];exact yC _
   rw [xj (qe (Zl a Wy) Wa (by intro z;cases z))];exact Zl a Wy
  ·have Wy:a∈ss:=by rcases yE ha with h | h;exact h;rw [h];exact yC _
   exact bs a Wy
theorem EU:aF ["_law_sacks_here", "_law_rests", "_law_walker", "_law_when", "_law_later", "_law_found", "_law_k", "_law_at", "_law_time_here", "_law_many", "_law_fits"] ["_law_sacks_here", "_law_rests", "_law_walker", "_law_when", "_law_later"] (aj qW):=L2.bw
theorem Ha (T:Tx K mg a):aW P w K mg base dQ 1 a.Bq a.Co ["_law_sacks_here", "_law_rests", "_law_walker", "_law_when", "_law_later"] (KD):=by
 refine T.BQ.ok EU (λvs H Q E h=>?_) (λbO A outer s H vs Q E hr h=>?_)
 ·obtain ⟨_,_,_,_,_,_,_,rfl,_⟩:=h;rfl
 ·have nd:=EU.nd;have hu:=hr.units;obtain ⟨ls,lr,w0,t0,j,ps,rs,rfl,hs,Q5,Jd,bD,hj,q⟩:=h;refine bP ?_;intro Y
  let B0:Bk Y ((nb (af qW) 1).drop 2):=⟨_,(xU (xu (xx (@PW.pt _ _ _ (dH (xp qA (pv 7) (pv 2) (av _)) (dH (wQ (pv 10)) (dc (xp fG (xi (xh rfl) (pv 1) (pv 6) (λ_ _=>rfl)) xS (av _)))))) (xU (xu (jD (uM PySem.F.plainAttrs_list PySem.F.slot_list_append PySem.F.type_list_append f6 (pv 5) (xP (xR (pv 6) xW rfl)))))) xr)))⟩
  let B1:Bk Y ((nb (af qW) 1).drop 1):=⟨_,(xU (xl (xk (i:=10) nd rfl rfl (xi (xh rfl) (xw (xP (xR (wf cu (pv 8) (pv 3) (av _)) (xR (wf pQ (pv 8) (pv 3) (av _)) xW rfl) rfl))) (pv 4) (λ_ _=>rfl))) B0.bl))⟩
  let B2:Bk Y (nb (af qW) 1):=⟨_,(xU (xl (wG (xi (xh rfl) (pv 0) (pv 6) (λ_ _=>rfl)) (wE (n:=3) rfl rfl (xY (xX (i:=7) nd rfl rfl) (xY (xX (i:=8) nd rfl rfl) (xY (xX (i:=9) nd rfl rfl) wD))))) B1.bl))⟩
  let B3:Bk Y ((af qW).drop 1):=⟨_,(xU (xl (qP PassesOwn.never rfl (wV rfl T.aU (xP (xR (xf (xg rfl) (by rfl) T.aJ PySem.boot_len (xP (xR (pv 0) xW rfl))) xW rfl))) (xX (i:=6) nd rfl rfl) B2.ps) (xu (xq (pv 5)))))⟩
  refine ⟨_,(xU (xl (xk (i:=5) nd rfl rfl (xw qU)) B3.bl)),?_⟩;have line:=bf;refine ⟨zx _,λl hl=>?_⟩;have s1:=xT (o:=HO.lst []) hl;have k1:upd H l (HO.lst []) l=some (.lst []):=xQ;generalize upd H l (HO.lst [])=H1 at s1 k1 ⊢;refine (zr rfl ⟨ls,zr rfl ⟨.inl (aB.of (s1 _ _ hs.l)),zr rfl ⟨by rw [zA];omega,by rw [zA];omega,?_⟩⟩⟩);rw [zA];refine (let W19:IV:=λi σ H2=>∃ ks:List Nat,(∃ v6 v7 v8 v9 v10,σ=[some (.ref ls),some (.ref lr),some (.int w0),some (.int t0),some (.int j),some (.ref l),v6,v7,v8,v9,v10])/\H2 l=some (.lst (ks.map λk:Nat=>V.int (k:Int)))/\ks.length<=i/\(∀ k∈ks,∃ s r,(ps.map (·.2))[k]?=some s/\rs[k]?=some r/\s.w=w0/\tP j s t0=true/\0 < r)/\ay H H2;wq (lo:=0) (n:=ps.length) W19 ⟨[],⟨_,_,_,_,_,rfl⟩,k1,zJ _,nofun,s1⟩ ?_ ?_)
  ·rintro i σ H2 hi ⟨ks,⟨v6,v7,v8,v9,v10,rfl⟩,k2,lk,ek,sm⟩;have O9:(ps.map λa=>V.ref a.1)[i]?=some (V.ref ps[i].1):=by simp [hi]
   have hir:i < rs.length:=by omega
   have mi:=yC hi;have nx:∀ (H5:Hp) (x y z u v:Option V),ay H2 H5->∃ ks:List Nat,(∃ v6 v7 v8 v9 v10,[some (V.ref ls),some (.ref lr),some (.int w0),some (.int t0),some (.int j),some (.ref l),x,y,z,u,v]=[some (V.ref ls),some (.ref lr),some (.int w0),some (.int t0),some (.int j),some (.ref l),v6,v7,v8,v9,v10])/\H5 l=some (.lst (ks.map λk:Nat=>V.int (k:Int)))/\ks.length<=i + 1/\(∀ k∈ks,∃ s r,(ps.map (·.2))[k]?=some s/\rs[k]?=some r/\s.w=w0/\tP j s t0=true/\0 < r)/\ay H H5:=λH5 x y z u v s5=>⟨ks,⟨_,_,_,_,_,rfl⟩,s5 _ _ k2,by omega,ek,sm.trans s5⟩;refine (zr rfl (zr rfl (bL (sm _ _ hs.l) (by rw [yB];exact wA O9) (MW (sm _ _ (hs.each _ mi)) ?_))));refine (zr rfl (zr rfl (aG rfl rfl (zr rfl (zr rfl (aG rfl rfl ⟨by show 2<=_;omega,λu hu=>?_⟩))))));have s3:=xT (o:=HO.lst [V.bl (decide (ps[i].2.t < t0)),V.bl (decide (ps[i].2.t ≥ t0))]) hu;have Rg:bQ [V.bl (decide (ps[i].2.t < t0)),V.bl (decide (ps[i].2.t ≥ t0))] j=some (V.bl (tP j ps[i].2 t0)):=by
    rcases hj with rfl | rfl
    ·rfl
    ·rfl
   refine (zr rfl (bL xQ Rg ?_));have Yh:=sm.trans s3;have k3:=s3 _ _ k2;generalize upd H2 u (HO.lst [V.bl (decide (ps[i].2.t < t0)),V.bl (decide (ps[i].2.t ≥ t0))])=H3 at s3 Yh k3 ⊢;refine (zr rfl (zr rfl ⟨rfl,zr rfl ?_⟩));by_cases c1:ps[i].2.w=w0
   ·refine ak (decide_eq_true (by rw [c1])) (zr rfl (zr rfl ?_));cases c2:tP j ps[i].2 t0 with
    | false=>exact aA rfl (aA rfl (nx _ _ _ _ _ _ s3))
    | true=>
     refine ak rfl (zr rfl (zr rfl (bL (Yh _ _ Q5) (by rw [yB];exact wA (v:=V.int rs[i]) (by rw [zD,zF hir];rfl)) (aG rfl rfl (zr rfl ?_)))));by_cases c3:rs[i] > 0
     ·refine ak (decide_eq_true c3) (zr rfl ⟨.inl ⟨rfl,_,aB.of k3⟩,zr rfl ⟨l,aG rfl rfl ⟨k3,by rw [zA];omega,ks++[i],⟨_,_,_,_,_,rfl⟩,?_,by rw [zU];show ks.length + 1<=_;omega,λk hk=>?_,ay.put hl Yh⟩⟩⟩)
      ·rw [xQ,zB,yB];rfl
      ·rcases zV.mp hk with h | h
       ·exact ek k h
       ·cases zE.mp h;exact ⟨ps[i].2,rs[i],by rw [zD,zF hi];rfl,zF hir,c1,c2,c3⟩
     ·exact aA (decide_eq_false c3) (nx _ _ _ _ _ _ s3)
   ·exact aA (decide_eq_false λz=>c1 (V.int.inj z)) (aA rfl (nx _ _ _ _ _ _ s3))
  ·rintro σ H2 ⟨ks,⟨v6,v7,v8,v9,v10,rfl⟩,k2,lk,ek,sm⟩;exact (zr rfl (q l ks H2 hl sm k2 ek lk))
theorem Fw:aF ["_law_purse_here", "_law_rooms_here", "_law_meeting", "_law_loads", "_law_wants", "_law_state", "_law_one", "_law_other", "_law_when", "_law_many", "_law_bags", "_law_rests", "_law_lacks", "_law_given", "_law_begun", "_law_come", "_law_ahead", "_law_turn", "_law_way", "_law_giver", "_law_taker", "_law_from", "_law_to", "_law_most", "_law_load", "_law_want", "_law_some"] ["_law_purse_here", "_law_rooms_here", "_law_meeting", "_law_loads", "_law_wants", "_law_state"] (aj wC):=L2.bw
theorem HA (T:Tx K mg a):aW P w K mg base dQ 2 a.BH a.CI ["_law_purse_here", "_law_rooms_here", "_law_meeting", "_law_loads", "_law_wants", "_law_state"] (Nh):=by
 have Aa:=wO P w base T;have FK:=Ha P w base T;refine T.Cf.ok Fw (λvs H Q E h=>?_) (λbO A outer s H vs Q E hr h=>?_)
 ·obtain ⟨_,_,_,_,_,_,_,_,_,_,_,_,_,_,_,_,rfl,_⟩:=h;rfl
 ·have nd:=Fw.nd;have hu:=hr.units;obtain ⟨p,tr,m,ll,lw,st,lb,lr,lk,aa,r,ls,ws,bs,rs,ks,rfl,hp,Wj,hm,hl,hW,lT,⟨kK,nQ,mG⟩,⟨n01,n02,V5,n0p,R1,R0⟩,⟨⟨YV,YU,To,nl3⟩,YM,RY,RX,Ti⟩,⟨r0,r1,r2,rm1,rm9⟩,⟨eb,Qo,er,ek,l8,w8⟩,VQ,Zn,bs0,bsr,q⟩:=h;refine bP ?_;intro Y
  let B0:Bk Y ((af wC).drop 7):=⟨_,(xU (xu (xq (wS (xP (xR (xi (xh rfl) (pv 13) xS (λ_ _=>rfl)) (xR (xi (xh rfl) (pv 13) xS (λ_ _=>rfl)) (xR (pv 14) (xR (pv 15) xW rfl) rfl) rfl) rfl))))))⟩
  let B1:Bk Y (ne (nb (af wC) 6) 14):=⟨_,(xU (xl (wG (xm wW (xi (xh rfl) (pv 12) (pv 25) (λ_ _=>rfl)) (pv 26)) (wy (pv 12) (pv 25) wJ)) (xu (wG (xm wR (xi (xh rfl) (pv 15) (pv 25) (λ_ _=>rfl)) (pv 26)) (wy (pv 15) (pv 25) wJ)))))⟩
  let B2:Bk Y (nb (nb (af wC) 6) 13):=⟨_,(xU (xl (wG (xm wW (xi (xh rfl) (pv 16) (pv 18) (λ_ _=>rfl)) (pv 26)) (wy (pv 16) (pv 18) wJ)) (xu (wG (xm wW (xi (xh rfl) (pv 10) (pv 19) (λ_ _=>rfl)) (pv 26)) (wy (pv 10) (pv 19) wJ)))))⟩
  let B3:Bk Y (ne (nb (af wC) 6) 13):=⟨_,(xU (xl (wG (xm wW (xi (xh rfl) (pv 11) (pv 24) (λ_ _=>rfl)) (pv 26)) (wy (pv 11) (pv 24) wJ)) (xu (wG (xm wR (xi (xh rfl) (pv 14) (pv 24) (λ_ _=>rfl)) (pv 26)) (wy (pv 14) (pv 24) wJ)))))⟩
  let B4:Bk Y ((nb (af wC) 6).drop 13):=⟨_,(xU (xl (xx (xp cu (pv 24) xS (av _)) B2.ps B3.ps) (xu (xx (xp cu (pv 25) xS (av _)) (xU (xu (wG (xm wR (xi (xh rfl) (pv 10) (pv 20) (λ_ _=>rfl)) (pv 26)) (wy (pv 10) (pv 20) wJ)))) B1.ps))))⟩
  let B5:Bk Y ((nb (af wC) 6).drop 11):=⟨_,(xU (xl (xk (i:=26) nd rfl rfl (xm wR xS (xZ Aa (hr.mono (by decide)) rfl T.Ab T.Ac T.Ae .nil aq (xP (xR (pv 0) (xR (pv 23) xW rfl) rfl))))) (xl (wG (xm wR (xi (xh rfl) (pv 13) (pv 18) (λ_ _=>rfl)) (pv 26)) (wy (pv 13) (pv 18) wJ)) B4.bl)))⟩
  let B6:Bk Y ((nb (af wC) 6).drop 10):=⟨_,(xU (xl (xk (i:=23) nd rfl rfl (xf (dD rfl) (by rfl) T.lu yc (xP (xR (pv 23) (xR (xi (xh rfl) (xm qS (pv 12) (xw (xP (xR (xm wW (xi (xo rfl) (pv 1) (pv 20) (λ_ _=>rfl)) (xi (xh rfl) (pv 10) (pv 20) (λ_ _=>rfl))) xW rfl)))) (pv 25) (λ_ _=>rfl)) xW rfl) rfl)))) B5.bl))⟩
  let B7:Bk Y ((nb (af wC) 6).drop 9):=⟨_,(xU (xl (xk (i:=23) nd rfl rfl (xf (dD rfl) (by rfl) T.lu yc (xP (xR (pv 23) (xR (xi (xh rfl) (xm qS (pv 11) (xw (xP (xR (xi (xh rfl) (pv 16) (pv 18) (λ_ _=>rfl)) xW rfl)))) (pv 24) (λ_ _=>rfl)) xW rfl) rfl)))) B6.bl))⟩
  let B8:Bk Y ((nb (af wC) 6).drop 8):=⟨_,(xU (xl (xk (i:=25) nd rfl rfl (xi (xh rfl) (pv 22) (xZ Aa (hr.mono (by decide)) rfl T.Ab T.Ac T.Ae .nil aq (xP (xR (pv 0) (xR (xf (xg rfl) (by rfl) T.aJ PySem.boot_len (xP (xR (pv 22) xW rfl))) xW rfl) rfl))) (λ_ _=>rfl))) B7.bl))⟩
  let B9:Bk Y ((nb (af wC) 6).drop 7):=⟨_,(xU (xl (xk (i:=24) nd rfl rfl (xi (xh rfl) (pv 21) (xZ Aa (hr.mono (by decide)) rfl T.Ab T.Ac T.Ae .nil aq (xP (xR (pv 0) (xR (xf (xg rfl) (by rfl) T.aJ PySem.boot_len (xP (xR (pv 21) xW rfl))) xW rfl) rfl))) (λ_ _=>rfl))) B8.bl))⟩
  let OA:Bk Y ((nb (af wC) 6).drop 6):=⟨_,(xU (xl (xx (@PW.pt _ _ _ (qM (xp (kj hu) (pv 21) (xw qU) (av _)) (qM (xp (kj hu) (pv 22) (xw qU) (av _)) (wx (xp qA (pv 23) xS (av _)))))) (xU (xu pG)) xr) B9.bl))⟩
  let RM:Bk Y ((nb (af wC) 6).drop 4):=⟨_,(xU (xl (xk (i:=22) nd rfl rfl (xm qS (pv 22) (xm fh (xw (xP (xR (pL jN xS) xW rfl))) (wK (dF) (by rfl) T.jq yS (xP (xR (wf cu (xi (xh rfl) (pv 10) (pv 20) (λ_ _=>rfl)) (xi (xo rfl) (pv 1) (pv 20) (λ_ _=>rfl)) (av _)) xW rfl)))))) (xl (xk (i:=23) nd rfl rfl (xm wW (pv 9) (xf (cJ rfl) (by rfl) T.kZ yd (xP (xR (pv 13) xW rfl))))) OA.bl)))⟩
  let VB:Bk Y ((nb (af wC) 6).drop 3):=⟨_,(xU (xl (xk (i:=22) nd rfl rfl (xZ FK (hr.mono (by decide)) rfl T.FB T.FE T.FH .nil aq (xP (xR (pv 4) (xR (pv 12) (xR (pv 20) (xR (pv 8) (xR xS xW rfl) rfl) rfl) rfl) rfl)))) RM.bl))⟩
  let VA:Bk Y ((nb (af wC) 6).drop 2):=⟨_,(xU (xl (xk (i:=21) nd rfl rfl (xm qS (xZ FK (hr.mono (by decide)) rfl T.FB T.FE T.FH .nil aq (xP (xR (pv 3) (xR (pv 11) (xR (pv 19) (xR (pv 8) (xR xS xW rfl) rfl) rfl) rfl) rfl))) (xm fh (xw (xP (xR (pL jN xS) xW rfl))) (wK (dF) (by rfl) T.jq yS (xP (xR (wf fG (xi (xh rfl) (pv 16) (pv 18) (λ_ _=>rfl)) xS (av _)) xW rfl)))))) VB.bl))⟩
  let Vz:Bk Y ((nb (af wC) 6).drop 1):=⟨_,(xU (xl (wG (xi (xh rfl) (xw (xP (xR (wS (xP (xR (pv 6) (xR (pv 7) xW rfl) rfl))) (xR (wS (xP (xR (pv 7) (xR (pv 6) xW rfl) rfl))) xW rfl) rfl))) (pv 18) (λ_ _=>rfl)) (wE (n:=2) rfl rfl (xY (xX (i:=19) nd rfl rfl) (xY (xX (i:=20) nd rfl rfl) wD)))) VA.bl))⟩
  let B15:Bk Y (nb (af wC) 6):=⟨_,(xU (xl (xk (i:=18) nd rfl rfl (xZ Aa (hr.mono (by decide)) rfl T.Ab T.Ac T.Ae .nil aq (xP (xR (pv 0) (xR xS xW rfl) rfl)))) Vz.bl))⟩
  let B16:Bk Y ((af wC).drop 6):=⟨_,(xU (xl (qP PassesOwn.never rfl (wV rfl T.aU (xP (xR (xZ Aa (hr.mono (by decide)) rfl T.Ab T.Ac T.Ae .nil aq (xP (xR (pv 0) (xR xS xW rfl) rfl))) xW rfl))) (xX (i:=17) nd rfl rfl) B15.ps) B0.bl))⟩
  let B17:Bk Y ((af wC).drop 4):=⟨_,(xU (xl (xk (i:=15) nd rfl rfl (xm fh (xw (xP (xR xS xW rfl))) (xf (xg rfl) (by rfl) T.aJ PySem.boot_len (xP (xR (pv 4) xW rfl))))) (xl (xk (i:=16) nd rfl rfl (xw (xP (xR (xi (xh rfl) (pv 10) (pv 6) (λ_ _=>rfl)) (xR (xi (xh rfl) (pv 10) (pv 7) (λ_ _=>rfl)) xW rfl) rfl)))) B16.bl)))⟩
  let B18:Bk Y ((af wC).drop 2):=⟨_,(xU (xl (xk (i:=13) nd rfl rfl (xw (xP (xR xS (xR xS xW rfl) rfl)))) (xl (xk (i:=14) nd rfl rfl (xm fh (xw (xP (xR xS xW rfl))) (xf (xg rfl) (by rfl) T.aJ PySem.boot_len (xP (xR (pv 3) xW rfl))))) B17.bl)))⟩
  refine ⟨_,(xU (xl (wG (pv 2) (wE (n:=4) rfl rfl (xY (xX (i:=6) nd rfl rfl) (xY (xX (i:=7) nd rfl rfl) (xY (xX (i:=8) nd rfl rfl) (xY (xX (i:=9) nd rfl rfl) wD)))))) (xl (wG (pv 5) (wE (n:=3) rfl rfl (xY (xX (i:=10) nd rfl rfl) (xY (xX (i:=11) nd rfl rfl) (xY (xX (i:=12) nd rfl rfl) wD))))) B18.bl))),?_⟩;have line:=bf;have lU:(2:Int) ^ 200 > 10000:=by decide
  have uW:(ls.map (·.2)).length=ls.length:=zA _;have ud:(ws.map (·.2)).length=ws.length:=zA _;refine ⟨_,rfl,m,_,rfl,aX.of hm,rfl,_,_,rfl,_,_,rfl,_,_,rfl,_,_,rfl,rfl,?_⟩;refine ⟨_,rfl,st,_,rfl,aX.of lT,rfl,_,_,rfl,_,_,rfl,_,_,rfl,rfl,?_⟩;refine fk [some (V.ref p),some (.ref tr),some (.ref m),some (.ref ll),some (.ref lw),some (.ref st),some (.int r.lo),some (.int r.hi),some (.int r.t),some (.int r.m),some (.ref lb),some (.ref lr),some (.ref lk),none,none,none,none,none,none,none,none,none,none,none,none,none,none] rfl ?_;refine ⟨by show 2<=_;omega,λgv Se=>?_⟩;have s1:=xT (o:=HO.lst [V.int 0,V.int 0]) Se;have Uc:upd H gv (HO.lst [V.int 0,V.int 0]) gv=some (.lst ([(0:Int),0].map V.int)):=xQ;generalize upd H gv (HO.lst [V.int 0,V.int 0])=H1 at s1 Uc ⊢;have rep:∀ n:Nat,(List.replicate ((n:Int)).toNat [V.int 0]).flatten=(List.replicate n (0:Int)).map V.int:=λn=>by rw [yA];exact kR n
  have Rv:∀ n:Nat,n<=100->-(2:Int) ^ 63<=(n:Int)/\(n:Int) < 2 ^ 63:=λn h=>⟨by omega,by omega⟩;refine ⟨by show 1<=_;omega,λz1 gA=>⟨_,rfl,ll,_,rfl,.inl (aB.of (xT gA _ _ (s1 _ _ hl.l))),z1,_,_,rfl,rfl,xQ,(Rv _ (by rw [zA];omega)).1,(Rv _ (by rw [zA];omega)).2,by rw [zA,yA];show 1 * _<=_;omega,λbg hbg=>?_⟩⟩;rw [zA,rep];have s2:=(xT (o:=HO.lst [V.int 0]) gA).trans (xT (o:=HO.lst ((List.replicate ls.length (0:Int)).map V.int)) hbg);have kb2:upd (upd H1 z1 (HO.lst [V.int 0])) bg (HO.lst ((List.replicate ls.length (0:Int)).map V.int)) bg=some (.lst ((List.replicate ls.length (0:Int)).map V.int)):=xQ;have fbg:H1 bg=none:=qq (xT gA) hbg;generalize upd (upd H1 z1 (HO.lst [V.int 0])) bg (HO.lst ((List.replicate ls.length (0:Int)).map V.int))=H2 at s2 kb2 ⊢;refine ⟨by show 1<=_;omega,λz2 nO=>⟨_,rfl,lw,_,rfl,.inl (aB.of (xT nO _ _ (s2 _ _ (s1 _ _ hW.l)))),z2,_,_,rfl,rfl,xQ,(Rv _ (by rw [zA];omega)).1,(Rv _ (by rw [zA];omega)).2,by rw [zA,yA];show 1 * _<=_;omega,λcm hcm=>?_⟩⟩;rw [zA,rep];have s3:=(xT (o:=HO.lst [V.int 0]) nO).trans (xT (o:=HO.lst ((List.replicate ws.length (0:Int)).map V.int)) hcm);have ZA:upd (upd H2 z2 (HO.lst [V.int 0])) cm (HO.lst ((List.replicate ws.length (0:Int)).map V.int)) cm=some (.lst ((List.replicate ws.length (0:Int)).map V.int)):=xQ;have fcm:H2 cm=none:=qq (xT nO) hcm;generalize upd (upd H2 z2 (HO.lst [V.int 0])) cm (HO.lst ((List.replicate ws.length (0:Int)).map V.int))=H3 at s3 ZA ⊢;have vW:=s1.trans (s2.trans s3);refine cU [some (V.ref p),some (.ref tr),some (.ref m),some (.ref ll),some (.ref lw),some (.ref st),some (.int r.lo),some (.int r.hi),some (.int r.t),some (.int r.m),some (.ref lb),some (.ref lr),some (.ref lk),some (.ref gv),some (.ref bg),some (.ref cm),none,none,none,none,none,none,none,none,none,none,none] rfl ?_;refine ⟨_,rfl,_,rfl,lb,_,_,_,rfl,rfl,aB.of (vW _ _ kK),jv r0 (by omega),_,rfl,_,rfl,lb,_,_,_,rfl,rfl,aB.of (vW _ _ kK),jv (by omega) (by omega),by show 2<=_;omega,λah UY=>?_⟩;have s4:=xT (o:=HO.lst [V.int (aP bs r.lo),V.int (aP bs r.hi)]) UY;have ka4:upd H3 ah (HO.lst [V.int (aP bs r.lo),V.int (aP bs r.hi)]) ah=some (.lst ([aP bs r.lo,aP bs r.hi].map V.int)):=xQ;generalize upd H3 ah (HO.lst [V.int (aP bs r.lo),V.int (aP bs r.hi)])=H4 at s4 ka4 ⊢;have uE:=vW.trans s4;have Jz:H cm=none:=qq (s1.trans s2) fcm;have JA:H bg=none:=qq s1 fbg;have LZ:H ah=none:=qq vW UY;have kgH:=s4 _ _ (s3 _ _ (s2 _ _ Uc));have kbH:=s4 _ _ (s3 _ _ kb2);have kcH:=s4 _ _ ZA;have nn:∀ {c d:Addr}{Hx:Hp}{u:HO},Hx c=some u->Hx d=none->c≠d:=λh1 h2=>xV h1 h2;have ra:jf H p (A7 lb lr lk gv bg cm ah):=by
   refine jf.mk7 ?_ ?_ Se JA Jz LZ
   ·have q1:=nn kK Se;have q2:=nn nQ Se;have q3:=nn mG Se;have q4:=nn kK JA;have q5:=nn nQ JA;have q6:=nn mG JA;have q7:=nn Uc fbg;have q8:=nn kK Jz;have q9:=nn nQ Jz;have Qp:=nn mG Jz;have q11:=nn (s2 _ _ Uc) fcm;have q12:=nn kb2 fcm;have q13:=nn kK LZ;have q14:=nn nQ LZ;have q15:=nn mG LZ;have q16:=nn (s3 _ _ (s2 _ _ Uc)) UY;have q17:=nn (s3 _ _ kb2) UY;have q18:=nn ZA UY;simp only [xH,zG,zK,or_false,not_or,List.nodup_nil,and_true];exact ⟨⟨n01,n02,q1,q4,q8,q13⟩,⟨V5,q2,q5,q9,q14⟩,⟨q3,q6,Qp,q15⟩,⟨q7,q11,q16⟩,⟨q12,q17⟩,q18,not_false⟩
   ·intro x hx;simp only [zG,zK,or_false] at hx;rcases hx with rfl | rfl | rfl | rfl | rfl | rfl | rfl
    ·exact n0p
    ·exact R1
    ·exact R0
    ·exact hp.ne Se
    ·exact hp.ne JA
    ·exact hp.ne Jz
    ·exact hp.ne LZ
  have TU:∀ i,i < 3->∃ xs,H (A7 lb lr lk gv bg cm ah i)=some (.lst xs):=λi hi=>by
   rcases i with _ | _ | _ | i
   ·exact ⟨_,kK⟩
   ·exact ⟨_,nQ⟩
   ·exact ⟨_,mG⟩
   ·omega
  have Yv:bB H p (A7 lb lr lk gv bg cm ah) (F7 bs rs ks [0,0] (List.replicate ls.length 0) (List.replicate ws.length 0) [aP bs r.lo,aP bs r.hi]) H4:=by
   refine ⟨by obtain ⟨x,y,z,e⟩:=hp;exact ⟨x,y,z,uE _ _ e⟩,λi hi=>?_,λc u _ _ _ _ e=>uE _ _ e⟩;rcases i with _ | _ | _ | _ | _ | _ | _ | i
   ·exact uE _ _ kK
   ·exact uE _ _ nQ
   ·exact uE _ _ mG
   ·exact kgH
   ·exact kbH
   ·exact kcH
   ·exact ka4
   ·omega
  have ri4:RI r (ls.map (·.2)) (ws.map (·.2)) aa bs rs ks 0 0 (aP bs r.lo) (aP bs r.hi) (List.replicate ls.length 0) (List.replicate ws.length 0) bs rs ks:=by
   have:=RI.start (r:=r) (ls:=ls.map (·.2)) (ws:=ws.map (·.2)) (aa:=aa) (bs:=bs) (by rw [uW];exact er) (by rw [ud];exact ek) VQ Zn (by omega) bs0 bsr;rwa [uW,ud] at this
  have hrr:0<=r.lo/\r.lo < bs.length/\0<=r.hi/\r.hi < bs.length/\r.lo≠r.hi:=⟨r0,by omega,by omega,by omega,by omega⟩;generalize hA:A7 lb lr lk gv bg cm ah=A at ra TU Yv;have A0:A 0=lb:=by rw [<-hA];rfl
  have A1:A 1=lr:=by rw [<-hA];rfl
  have A2:A 2=lk:=by rw [<-hA];rfl
  have A3:A 3=gv:=by rw [<-hA];rfl
  have A4:A 4=bg:=by rw [<-hA];rfl
  have A5:A 5=cm:=by rw [<-hA];rfl
  have A6:A 6=ah:=by rw [<-hA];rfl
  refine ⟨_,rfl,p,_,rfl,by decide,by decide,Yv.pu,λdn H7 d0 d1 g7=>⟨_,rfl,by omega,by omega,?_⟩⟩;have rh7:=Yv.go ra g7;obtain ⟨nd1,rfl⟩:=zm d0;refine wq (lo:=0) (n:=((nd1:Int)).toNat) (λi σ H8=>∃ g0 g1 a0 a1 tX tU bs' aL aO,(∃ lG Px X4 v20 ni OE MT Pw OD J6,σ=[some (.ref p),some (.ref tr),some (.ref m),some (.ref ll),some (.ref lw),some (.ref st),some (.int r.lo),some (.int r.hi),some (.int r.t),some (.int r.m),some (.ref lb),some (.ref lr),some (.ref lk),some (.ref gv),some (.ref bg),some (.ref cm),some (.ref ah),lG,Px,X4,v20,ni,OE,MT,Pw,OD,J6])/\RI r (ls.map (·.2)) (ws.map (·.2)) aa bs rs ks g0 g1 a0 a1 tX tU bs' aL aO/\bB H p A (F7 bs' aL aO [g0,g1] tX tU [a0,a1]) H8) ⟨_,_,_,_,_,_,_,_,_,⟨_,_,_,_,_,_,_,_,_,_,rfl⟩,ri4,rh7⟩ ?_ ?_
  ·rintro i σ H8 hi ⟨g0,g1,a0,a1,tX,tU,bs',aL,aO,⟨lG,Px,X4,v20,ni,OE,MT,Pw,OD,J6,rfl⟩,ri,rh⟩;have k8:=rh.ls;refine ⟨_,rfl,p,_,rfl,by decide,by decide,rh.pu,λway H9 w0 w1 g9=>?_⟩;have hw:way=0\/way=1:=by omega
   have rh9:=rh.go ra g9;refine ⟨_,rfl,_,rfl,J9,λu1 ZU=>?_⟩;have t1:=xT (o:=HO.tup [V.int r.lo,V.int r.hi]) ZU;have ku1:upd H9 u1 (HO.tup [V.int r.lo,V.int r.hi]) u1=some (.tup [V.int r.lo,V.int r.hi]):=xQ;generalize upd H9 u1 (HO.tup [V.int r.lo,V.int r.hi])=eX at t1 ku1 ⊢;refine ⟨_,rfl,_,rfl,J9,λu2 N7=>?_⟩;have t2:=xT (o:=HO.tup [V.int r.hi,V.int r.lo]) N7;have ku2:upd eX u2 (HO.tup [V.int r.hi,V.int r.lo]) u2=some (.tup [V.int r.hi,V.int r.lo]):=xQ;generalize upd eX u2 (HO.tup [V.int r.hi,V.int r.lo])=fX at t2 ku2 ⊢;refine ⟨J9,λu3 ZT=>?_⟩;have t3:=xT (o:=HO.lst [V.ref u1,V.ref u2]) ZT;have ku3:upd fX u3 (HO.lst [V.ref u1,V.ref u2]) u3=some (.lst [V.ref u1,V.ref u2]):=xQ;generalize upd fX u3 (HO.lst [V.ref u1,V.ref u2])=lI at t3 ku3 ⊢;have Qn:=rh9.same (t1.trans (t2.trans t3));have Zk:lI (sel way u1 u2)=some (.tup [V.int (sel way r.lo r.hi),V.int (sel way r.hi r.lo)]):=by
    rcases hw with rfl | rfl
    ·exact t3 _ _ (t2 _ _ ku1)
    ·exact t3 _ _ ku2
   have ZY:bQ [V.ref u1,V.ref u2] way=some (V.ref (sel way u1 u2)):=by rcases hw with rfl | rfl <;> rfl
   refine ⟨_,rfl,u3,_,_,_,rfl,rfl,aB.of ku3,ZY,sel way u1 u2,_,rfl,aX.of Zk,rfl,_,_,rfl,_,_,rfl,rfl,?_⟩;refine fk [some (V.ref p),some (.ref tr),some (.ref m),some (.ref ll),some (.ref lw),some (.ref st),some (.int r.lo),some (.int r.hi),some (.int r.t),some (.int r.m),some (.ref lb),some (.ref lr),some (.ref lk),some (.ref gv),some (.ref bg),some (.ref cm),some (.ref ah),some (.int (0 + (i:Int))),some (.int way),some (.int (sel way r.lo r.hi)),some (.int (sel way r.hi r.lo)),ni,OE,MT,Pw,OD,J6] rfl ?_;have hG:0<=sel way r.lo r.hi/\sel way r.lo r.hi < bs.length:=jV (P:=λx:Int=>0<=x/\x < bs.length) ⟨r0,by omega⟩ ⟨by omega,by omega⟩;have hT:0<=sel way r.hi r.lo/\sel way r.hi r.lo < bs.length:=jV (P:=λx:Int=>0<=x/\x < bs.length) ⟨by omega,by omega⟩ ⟨r0,by omega⟩;have step:=λ(o1 o2:Option Nat) (s:Int)=>ri.step (s:=s) (way:=way) (o1:=o1) (o2:=o2) hw hrr eb;have afc:0<=sel way a0 a1:=jV (P:=λx:Int=>0<=x) ri.p0 ri.p1;have TL:aL.length=ls.length:=by have:=ri.L.KI;rwa [uW] at this
   have TQ:aO.length=ws.length:=by have:=ri.W.KI;rwa [ud] at this
   have Lo:=ri.bl;have r8:aL.length<=8:=by rw [TL];exact l8
   have k8':aO.length<=8:=by rw [TQ];exact w8
   generalize hGe:sel way r.lo r.hi=G at *;generalize hTe:sel way r.hi r.lo=T at *;have at3:=λ(Hx:Hp) (h:bB H p A (F7 bs' aL aO [g0,g1] tX tU [a0,a1]) Hx)=>h.ls;have aah:=Qn.OP hp TU hl YV (by rw [A0];exact YU) (by rw [A1];exact To) (by rw [A2];exact nl3);have kF:lI lr=some (.lst (aL.map V.int)):=by have:=Qn.ls 1 (by decide);rwa [A1] at this
   refine ⟨_,rfl,_,rfl,_,rfl,_,rfl,ll,lr,G,r.t,0,ls,aL,rfl,aah,kF,TL,yG l8 (by decide),.inl rfl,λl1 pZ JK LH rR Ub Y0 Ze=>?_⟩;have Yx:=Qn.same rR;refine ⟨_,rfl,uO,λy1 Lu=>?_⟩;have uD:=xT (o:=HO.lst [V.int (-1)]) Lu;have ky1:upd JK y1 (HO.lst [V.int (-1)]) y1=some (.lst [V.int (-1)]):=xQ;generalize upd JK y1 (HO.lst [V.int (-1)])=Ox at uD ky1 ⊢;have Qm:=Yx.same uD;have R8:Ox ah=some (.lst ([a0,a1].map V.int)):=by have:=Qm.ls 6 (by decide);rwa [A6] at this
   have MP:=Ry (V.int (-1));have OV:pZ.length<=8:=yG Ze l8;refine ⟨_,rfl,_,rfl,ah,_,_,_,rfl,rfl,aB.of R8,jB hw,_,_,rfl,rfl,.inr ⟨_,rfl,y1,_,_,rfl,rfl,ky1,(MP _).1,(MP _).2.1,(MP _).2.2,λy2 lH=>?_⟩⟩;refine ⟨l1,y2,_,_,rfl,rfl,xT lH _ _ (uD _ _ Ub),xQ,Lj _ OV,λl2 JU=>?_⟩;rw [ki] at JU ⊢;rw [pO];have oZ:=ay.trans (xT lH) (xT (o:=HO.lst ((opts pZ (decide (0 < sel way a0 a1))).map V.int)) JU);have To:l2≠p:=(Qm.same (xT lH)).pu.ne JU;have OZ:=xQ (H:=upd Ox y2 (HO.lst ((if decide (0 < sel way a0 a1)=true then [(-1:Int)] else []).map V.int))) (a:=l2) (o:=HO.lst ((opts pZ (decide (0 < sel way a0 a1))).map V.int));generalize upd (upd Ox y2 (HO.lst ((if decide (0 < sel way a0 a1)=true then [(-1:Int)] else []).map V.int))) l2 (HO.lst ((opts pZ (decide (0 < sel way a0 a1))).map V.int))=Pn at oZ OZ ⊢;refine cU [some (V.ref p),some (.ref tr),some (.ref m),some (.ref ll),some (.ref lw),some (.ref st),some (.int r.lo),some (.int r.hi),some (.int r.t),some (.int r.m),some (.ref lb),some (.ref lr),some (.ref lk),some (.ref gv),some (.ref bg),some (.ref cm),some (.ref ah),some (.int (0 + (i:Int))),some (.int way),some (.int G),some (.int T),some (.ref l2),OE,MT,Pw,OD,J6] rfl ?_;have Ql:=Qm.same oZ;have ZS:=Ql.OP hp TU hW YM (by rw [A0];exact RY) (by rw [A1];exact RX) (by rw [A2];exact Ti);have nN:Pn lk=some (.lst (aO.map V.int)):=by have:=Ql.ls 2 (by decide);rwa [A2] at this
   refine ⟨_,rfl,_,rfl,_,rfl,_,rfl,lw,lk,T,r.t,1,ws,aO,rfl,ZS,nN,TQ,yG w8 (by decide),.inr rfl,λl3 kE WQ Wt Qg kl3 QG Zd=>?_⟩;have Yw:=Ql.same Qg;have OU:kE.length<=8:=yG Zd w8;refine ⟨_,rfl,_,rfl,uO,λy3 JS=>?_⟩;have RU:=xT (o:=HO.lst [V.int (-1)]) JS;have ky3:upd WQ y3 (HO.lst [V.int (-1)]) y3=some (.lst [V.int (-1)]):=xQ;generalize upd WQ y3 (HO.lst [V.int (-1)])=RK at RU ky3 ⊢;have NC:=Yw.same RU;have Ua:RK lb=some (.lst (bs'.map V.int)):=by have:=NC.ls 0 (by decide);rwa [A0] at this
   have TZ:=NC.tup hp TU Wj;refine ⟨_,rfl,_,rfl,lb,_,_,_,rfl,rfl,aB.of Ua,jv hT.1 (by rw [Lo];exact hT.2),_,rfl,_,rfl,tr,_,_,_,rfl,rfl,aX.of TZ,jv hT.1 (by rw [<-eb];exact hT.2),_,_,rfl,rfl,.inr ⟨_,rfl,y3,_,_,rfl,rfl,ky3,(MP _).1,(MP _).2.1,(MP _).2.2,λy4 ZM=>?_⟩⟩;refine ⟨l3,y4,_,_,rfl,rfl,xT ZM _ _ (RU _ _ kl3),xQ,Lj _ OU,λl4 LG=>?_⟩;rw [ki] at LG ⊢;rw [pO];have Yr:=ay.trans (xT ZM) (xT (o:=HO.lst ((opts kE (decide (aP bs' T < aP aa T))).map V.int)) LG);have nl4:l4≠p:=(NC.same (xT ZM)).pu.ne LG;have MG:=xQ (H:=upd RK y4 (HO.lst ((if decide (aP bs' T < aP aa T)=true then [(-1:Int)] else []).map V.int))) (a:=l4) (o:=HO.lst ((opts kE (decide (aP bs' T < aP aa T))).map V.int));generalize upd (upd RK y4 (HO.lst ((if decide (aP bs' T < aP aa T)=true then [(-1:Int)] else []).map V.int))) l4 (HO.lst ((opts kE (decide (aP bs' T < aP aa T))).map V.int))=H18 at Yr MG ⊢;refine cU [some (V.ref p),some (.ref tr),some (.ref m),some (.ref ll),some (.ref lw),some (.ref st),some (.int r.lo),some (.int r.hi),some (.int r.t),some (.int r.m),some (.ref lb),some (.ref lr),some (.ref lk),some (.ref gv),some (.ref bg),some (.ref cm),some (.ref ah),some (.int (0 + (i:Int))),some (.int way),some (.int G),some (.int T),some (.ref l2),some (.ref l4),MT,Pw,OD,J6] rfl ?_;have S6:=NC.same Yr;have OZ:=Yr _ _ (RU _ _ (Qg _ _ OZ));have Wc:H18 gv=some (.lst ([g0,g1].map V.int)):=by have:=S6.ls 3 (by decide);rwa [A3] at this
   refine ⟨_,rfl,_,rfl,gv,_,rfl,aB.of Wc,_,_,rfl,rfl,?_⟩;refine cU [some (V.ref p),some (.ref tr),some (.ref m),some (.ref ll),some (.ref lw),some (.ref st),some (.int r.lo),some (.int r.hi),some (.int r.t),some (.int r.m),some (.ref lb),some (.ref lr),some (.ref lk),some (.ref gv),some (.ref bg),some (.ref cm),some (.ref ah),some (.int (0 + (i:Int))),some (.int way),some (.int G),some (.int T),some (.ref l2),some (.ref l4),some (.int (r.m - ([g0,g1]:List Int).sum)),Pw,OD,J6] rfl ?_;refine ⟨_,rfl,zx _,λe1 he1=>?_⟩;have SO:=xT (o:=HO.lst []) he1;have ke1:upd H18 e1 (HO.lst []) e1=some (.lst []):=xQ;generalize upd H18 e1 (HO.lst [])=H19 at SO ke1 ⊢;have S5:=S6.same SO;refine ⟨l2,e1,_,rfl,rfl,aB.of (SO _ _ OZ),aB.of ke1,_,rfl,tF (λc=>ak rfl ⟨g0,g1,a0,a1,tX,tU,bs',aL,aO,⟨_,_,_,_,_,_,_,_,_,_,rfl⟩,ri,S5⟩) (λc1=>?_)⟩;refine ⟨_,rfl,zx _,λe2 he2=>?_⟩;have VP:=xT (o:=HO.lst []) he2;have ke2:upd H19 e2 (HO.lst []) e2=some (.lst []):=xQ;generalize upd H19 e2 (HO.lst [])=H20 at VP ke2 ⊢;have NB:=S5.same VP;have OZ:=VP _ _ (SO _ _ OZ);have MG:=VP _ _ (SO _ _ MG);refine ⟨l4,e2,_,rfl,rfl,aB.of MG,aB.of ke2,_,rfl,tF (λc=>ak rfl ⟨g0,g1,a0,a1,tX,tU,bs',aL,aO,⟨_,_,_,_,_,_,_,_,_,_,rfl⟩,ri,NB⟩) (λc2=>⟨_,rfl,rfl,_,rfl,tF (λc=>⟨g0,g1,a0,a1,tX,tU,bs',aL,aO,⟨_,_,_,_,_,_,_,_,_,_,rfl⟩,ri,NB⟩) (λc3=>?_)⟩)⟩;have c3:r.m - ([g0,g1]:List Int).sum≠0:=λz=>of_decide_eq_false c3 (congrArg V.int z);have sm2:([g0,g1]:List Int).sum=g0 + g1:=by simp
   rw [sm2] at c3 ⊢;have c1:=pN c1;have c2:=pN c2;have tk1:=Ke c1 (pP OV);have X8:=Ke c2 (pP OU);refine ⟨_,rfl,_,rfl,_,rfl,l2,_,rfl,.inl (aB.of OZ),p,_,rfl,tk1.1,tk1.2,NB.pu,λd5 H21 d50 d51 g21=>?_⟩;obtain ⟨i5,rfl⟩:=zm d50;have S4:=NB.go ra g21;obtain ⟨x5,hx5⟩:=uA d51;obtain ⟨o1,rfl,ob1,om1⟩:=uN hx5;refine ⟨l2,_,_,_,rfl,rfl,aB.of (g21.1 _ _ To OZ),wA (by rw [zD,hx5];rfl),?_⟩;refine cU [some (V.ref p),some (.ref tr),some (.ref m),some (.ref ll),some (.ref lw),some (.ref st),some (.int r.lo),some (.int r.hi),some (.int r.t),some (.int r.m),some (.ref lb),some (.ref lr),some (.ref lk),some (.ref gv),some (.ref bg),some (.ref cm),some (.ref ah),some (.int (0 + (i:Int))),some (.int way),some (.int G),some (.int T),some (.ref l2),some (.ref l4),some (.int (r.m - (g0 + g1))),some (.int (oI o1)),OD,J6] rfl ?_;have MG:=g21.1 _ _ nl4 MG;refine ⟨_,rfl,_,rfl,_,rfl,l4,_,rfl,.inl (aB.of MG),p,_,rfl,X8.1,X8.2,S4.pu,λd6 H22 WE WD g22=>?_⟩;obtain ⟨i6,rfl⟩:=zm WE;have Qk:=S4.go ra g22;obtain ⟨x6,hx6⟩:=uA WD;obtain ⟨o2,rfl,ob2,om2⟩:=uN hx6;refine ⟨l4,_,_,_,rfl,rfl,aB.of (g22.1 _ _ nl4 MG),wA (by rw [zD,hx6];rfl),?_⟩;refine cU [some (V.ref p),some (.ref tr),some (.ref m),some (.ref ll),some (.ref lw),some (.ref st),some (.int r.lo),some (.int r.hi),some (.int r.t),some (.int r.m),some (.ref lb),some (.ref lr),some (.ref lk),some (.ref gv),some (.ref bg),some (.ref cm),some (.ref ah),some (.int (0 + (i:Int))),some (.int way),some (.int G),some (.int T),some (.ref l2),some (.ref l4),some (.int (r.m - (g0 + g1))),some (.int (oI o1)),some (.int (oI o2)),J6] rfl ?_;obtain ⟨p1,x1,Y4⟩:=pK Y0 ob1 om1 of_decide_eq_true;obtain ⟨p2,x2,Y3⟩:=pK (a:=aP aa T - aP bs' T) QG ob2 om2 λh=>Int.sub_pos.mpr (of_decide_eq_true h);have R8:H22 ah=some (.lst ([a0,a1].map V.int)):=by have:=Qk.ls 6 (by decide);rwa [A6] at this
   have kF:H22 lr=some (.lst (aL.map V.int)):=by have:=Qk.ls 1 (by decide);rwa [A1] at this
   refine ⟨_,rfl,_,rfl,_,rfl,_,rfl,ah,_,_,_,rfl,rfl,aB.of R8,jB hw,uO,λy5 hy5=>?_⟩;refine ⟨lr,y5,_,_,rfl,rfl,xT hy5 _ _ kF,xQ,Pe r8,λy6 hy6=>?_⟩;have s23:=ay.trans (xT hy5) (xT (o:=HO.lst (aL.map V.int++[V.int (sel way a0 a1)])) hy6);refine ⟨_,rfl,y6,_,_,_,rfl,rfl,aB.of xQ,uL p1,_,_,rfl,?_⟩;generalize upd (upd H22 y5 (HO.lst [V.int (sel way a0 a1)])) y6 (HO.lst (aL.map V.int++[V.int (sel way a0 a1)]))=H23 at s23 ⊢;have Nz:=Qk.same s23;refine cU [some (V.ref p),some (.ref tr),some (.ref m),some (.ref ll),some (.ref lw),some (.ref st),some (.int r.lo),some (.int r.hi),some (.int r.t),some (.int r.m),some (.ref lb),some (.ref lr),some (.ref lk),some (.ref gv),some (.ref bg),some (.ref cm),some (.ref ah),some (.int (0 + (i:Int))),some (.int way),some (.int G),some (.int T),some (.ref l2),some (.ref l4),some (.int (if pk aL (sel way a0 a1) o1 < r.m - (g0 + g1) then pk aL (sel way a0 a1) o1 else r.m - (g0 + g1))),some (.int (oI o1)),some (.int (oI o2)),J6] rfl ?_;have QL:H23 lb=some (.lst (bs'.map V.int)):=by have:=Nz.ls 0 (by decide);rwa [A0] at this
   have nN:H23 lk=some (.lst (aO.map V.int)):=by have:=Nz.ls 2 (by decide);rwa [A2] at this
   have ktr:=Nz.tup hp TU Wj;refine ⟨_,rfl,_,rfl,_,rfl,_,rfl,tr,_,_,_,rfl,rfl,aX.of ktr,jv hT.1 (by rw [<-eb];exact hT.2),_,rfl,_,rfl,lb,_,_,_,rfl,rfl,aB.of QL,jv hT.1 (by rw [Lo];exact hT.2),_,_,rfl,rfl,uO,λy7 hy7=>?_⟩;refine ⟨lk,y7,_,_,rfl,rfl,xT hy7 _ _ nN,xQ,Pe k8',λy8 hy8=>?_⟩;have s24:=ay.trans (xT hy7) (xT (o:=HO.lst (aO.map V.int++[V.int (aP aa T - aP bs' T)])) hy8);refine ⟨_,rfl,y8,_,_,_,rfl,rfl,aB.of xQ,uL p2,_,_,rfl,?_⟩;generalize upd (upd H23 y7 (HO.lst [V.int (aP aa T - aP bs' T)])) y8 (HO.lst (aO.map V.int++[V.int (aP aa T - aP bs' T)]))=H24 at s24 ⊢;have S0:=Nz.same s24;have M0:0 < r.m - (g0 + g1):=TF ri.gm c3;have M9:r.m - (g0 + g1)<=99:=Tz ri.z0 ri.z1 rm9;obtain ⟨M,eM,m0,Y6,m1,m2,m3⟩:=NV (r.m - (g0 + g1)) (pk aL (sel way a0 a1) o1) (pk aO (aP aa T - aP bs' T) o2) M0 M9 x1 x2;rw [eM];clear eM;refine cU [some (V.ref p),some (.ref tr),some (.ref m),some (.ref ll),some (.ref lw),some (.ref st),some (.int r.lo),some (.int r.hi),some (.int r.t),some (.int r.m),some (.ref lb),some (.ref lr),some (.ref lk),some (.ref gv),some (.ref bg),some (.ref cm),some (.ref ah),some (.int (0 + (i:Int))),some (.int way),some (.int G),some (.int T),some (.ref l2),some (.ref l4),some (.int M),some (.int (oI o1)),some (.int (oI o2)),J6] rfl ?_;refine ⟨_,rfl,_,rfl,p,_,rfl,m0,Y6,S0.pu,λd7 H25 d70 d71 g25=>⟨_,_,rfl,rfl,?_⟩⟩;have SY:=S0.go ra g25;obtain ⟨s,es⟩:∃ s:Int,s=1 + d7:=⟨_,rfl⟩;have sM:s<=M:=s36 es d71;have s1M:1<=s:=Yq es d70;have ri2:=step o1 o2 s s1M (Int.le_trans sM m1) (Y4 s (Int.le_trans sM m2) _ λx h=>of_decide_eq_true h) (Y3 s (Int.le_trans sM m3) _ λx h=>of_decide_eq_true h);subst es;refine cU [some (V.ref p),some (.ref tr),some (.ref m),some (.ref ll),some (.ref lw),some (.ref st),some (.int r.lo),some (.int r.hi),some (.int r.t),some (.int r.m),some (.ref lb),some (.ref lr),some (.ref lk),some (.ref gv),some (.ref bg),some (.ref cm),some (.ref ah),some (.int (0 + (i:Int))),some (.int way),some (.int G),some (.int T),some (.ref l2),some (.ref l4),some (.int M),some (.int (oI o1)),some (.int (oI o2)),some (.int (1 + d7))] rfl ?_;have Wc:H25 gv=some (.lst ([g0,g1].map V.int)):=by have:=SY.ls 3 (by decide);rwa [A3] at this
   refine ⟨_,rfl,_,rfl,gv,_,_,_,rfl,rfl,aB.of Wc,jB hw,_,rfl,_,_,rfl,rfl,_,rfl,_,rfl,gv,_,_,way.toNat,rfl,rfl,Wc,tD w0 w1,?_⟩;have vZ:=SY.Yn ra (y:=[sel way (g0 + (1 + d7)) g0,sel way g1 (g1 + (1 + d7))]) (ys:=([g0,g1].map V.int).set way.toNat (V.int (sel way g0 g1 + (1 + d7)))) (by rw [uB hw];rcases hw with rfl | rfl <;> rfl);rw [A3] at vZ;generalize upd H25 gv _=WO at vZ ⊢;refine ⟨_,rfl,_,_,rfl,rfl,_,rfl,?_⟩;refine Um (fun σ H'=>(∃ lG ni OE MT,σ=[some (.ref p),some (.ref tr),some (.ref m),some (.ref ll),some (.ref lw),some (.ref st),some (.int r.lo),some (.int r.hi),some (.int r.t),some (.int r.m),some (.ref lb),some (.ref lr),some (.ref lk),some (.ref gv),some (.ref bg),some (.ref cm),some (.ref ah),lG,some (.int way),some (.int G),some (.int T),ni,OE,MT,some (.int (oI o1)),some (.int (oI o2)),some (.int (1 + d7))])/\bB H p A (F7 (jK bs' G o1 (-(1 + d7))) (lR aL o1 (1 + d7)) aO [sel way (g0 + (1 + d7)) g0,sel way g1 (g1 + (1 + d7))] (gP tX o1 (1 + d7)) tU [sel way (a0 - ((1 + d7) - eN o1 (1 + d7))) a0,sel way a1 (a1 - ((1 + d7) - eN o1 (1 + d7)))]) H') ?_ (λc k=>?_) (λc k=>?_)
   ·rintro σ RJ ⟨⟨lG,ni,OE,MT,rfl⟩,ig⟩;have lB:(jK bs' G o1 (-(1 + d7))).length=bs.length:=by rw [jJ,Lo]
    refine ⟨_,rfl,_,_,rfl,rfl,_,rfl,?_⟩;cases o2 with
    | none=>
     refine ak (by decide) ?_;have QL:RJ lb=some (.lst ((jK bs' G o1 (-(1 + d7))).map V.int)):=by have:=ig.ls 0 (by decide);rwa [A0] at this
     refine ⟨_,rfl,_,rfl,lb,_,_,_,rfl,rfl,aB.of QL,jv hT.1 (by rw [lB];exact hT.2),_,rfl,_,_,rfl,rfl,_,rfl,_,rfl,lb,_,_,T.toNat,rfl,rfl,QL,tD hT.1 (by rw [zA,lB];exact hT.2),?_⟩;have iY:=ig.SM ra (y:=(jK (jK bs' G o1 (-(1 + d7))) T none (1 + d7))) (ys:=((jK bs' G o1 (-(1 + d7))).map V.int).set T.toNat (V.int (aP (jK bs' G o1 (-(1 + d7))) T + (1 + d7)))) (by rw [<-yP];rfl);rw [A0] at iY;exact ⟨_,_,_,_,_,_,_,_,_,⟨_,_,_,_,_,_,_,_,_,_,rfl⟩,ri2,iY⟩
    | some k2=>
     have UM:=p2 k2 rfl;refine aA (by show decide (((k2:Nat):Int) < 0)=false;exact decide_eq_false (Int.not_lt.mpr (Int.natCast_nonneg _))) ?_;have nN:RJ lk=some (.lst (aO.map V.int)):=by have:=ig.ls 2 (by decide);rwa [A2] at this
     refine ⟨_,rfl,_,rfl,lk,_,_,_,rfl,rfl,aB.of nN,wA (by rw [zD,wY UM];rfl),_,rfl,_,_,rfl,rfl,_,rfl,_,rfl,lk,_,_,k2,rfl,rfl,nN,qK (by rw [zA];exact UM),?_⟩;have iY:=ig.Yo ra (y:=(lR aO (some k2) (1 + d7))) (ys:=(aO.map V.int).set k2 (V.int (aH aO k2 - (1 + d7)))) (by rw [<-yP];rfl);rw [A2] at iY;generalize upd RJ lk _=H28 at iY ⊢;have lcm:k2 < tU.length:=by rw [ri.W.bl,<- ri.W.KI];exact UM
     have kcm:H28 cm=some (.lst (tU.map V.int)):=by have:=iY.ls 5 (by decide);rwa [A5] at this
     refine ⟨_,rfl,_,rfl,cm,_,_,_,rfl,rfl,aB.of kcm,wA (by rw [zD,wY lcm];rfl),_,rfl,_,_,rfl,rfl,_,rfl,_,rfl,cm,_,_,k2,rfl,rfl,kcm,qK (by rw [zA];exact lcm),?_⟩;have SX:=iY.Yl ra (y:=(gP tU (some k2) (1 + d7))) (ys:=(tU.map V.int).set k2 (V.int (aH tU k2 + (1 + d7)))) (by rw [<-yP];rfl);rw [A5] at SX;exact ⟨_,_,_,_,_,_,_,_,_,⟨_,_,_,_,_,_,_,_,_,_,rfl⟩,ri2,SX⟩
   ·cases o1 with
    | some k1=>exact absurd (of_decide_eq_true c) (Int.not_lt.mpr (Int.natCast_nonneg _))
    | none=>
     have R8:WO ah=some (.lst ([a0,a1].map V.int)):=by have:=vZ.ls 6 (by decide);rwa [A6] at this
     refine ⟨_,rfl,_,rfl,ah,_,_,_,rfl,rfl,aB.of R8,jB hw,_,rfl,_,_,rfl,rfl,_,rfl,_,rfl,ah,_,_,way.toNat,rfl,rfl,R8,tD w0 w1,?_⟩;have ig:=vZ.Yk ra (y:=[sel way (a0 - ((1 + d7) - eN none (1 + d7))) a0,sel way a1 (a1 - ((1 + d7) - eN none (1 + d7)))]) (ys:=([a0,a1].map V.int).set way.toNat (V.int (sel way a0 a1 - (1 + d7)))) (by rw [uB hw];show _=[V.int (sel way (a0 - ((1 + d7) - 0)) a0),V.int (sel way a1 (a1 - ((1 + d7) - 0)))];rw [Int.sub_zero];rcases hw with rfl | rfl <;> rfl);rw [A6] at ig;generalize upd WO ah _=RJ at ig ⊢;have QL:RJ lb=some (.lst (bs'.map V.int)):=by have:=ig.ls 0 (by decide);rwa [A0] at this
     refine ⟨_,rfl,_,rfl,lb,_,_,_,rfl,rfl,aB.of QL,jv hG.1 (by rw [Lo];exact hG.2),_,rfl,_,_,rfl,rfl,_,rfl,_,rfl,lb,_,_,G.toNat,rfl,rfl,QL,tD hG.1 (by rw [zA,Lo];exact hG.2),k _ _ ⟨⟨_,_,_,_,rfl⟩,?_⟩⟩;have iY:=ig.SM ra (y:=(jK bs' G none (-(1 + d7)))) (ys:=(bs'.map V.int).set G.toNat (V.int (aP bs' G - (1 + d7)))) (by rw [<-yP];rfl);rw [A0] at iY;exact iY
   ·cases o1 with
    | none=>exact absurd c (by decide)
    | some k1=>
     have Wu:=p1 k1 rfl;have kF:WO lr=some (.lst (aL.map V.int)):=by have:=vZ.ls 1 (by decide);rwa [A1] at this
     refine ⟨_,rfl,_,rfl,lr,_,_,_,rfl,rfl,aB.of kF,wA (by rw [zD,wY Wu];rfl),_,rfl,_,_,rfl,rfl,_,rfl,_,rfl,lr,_,_,k1,rfl,rfl,kF,qK (by rw [zA];exact Wu),?_⟩;have ig:=vZ.Yp ra (y:=(lR aL (some k1) (1 + d7))) (ys:=(aL.map V.int).set k1 (V.int (aH aL k1 - (1 + d7)))) (by rw [<-yP];rfl);rw [A1] at ig;generalize upd WO lr _=RJ at ig ⊢;have R3:k1 < tX.length:=by rw [ri.L.bl,<- ri.L.KI];exact Wu
     have kbg:RJ bg=some (.lst (tX.map V.int)):=by have:=ig.ls 4 (by decide);rwa [A4] at this
     refine ⟨_,rfl,_,rfl,bg,_,_,_,rfl,rfl,aB.of kbg,wA (by rw [zD,wY R3];rfl),_,rfl,_,_,rfl,rfl,_,rfl,_,rfl,bg,_,_,k1,rfl,rfl,kbg,qK (by rw [zA];exact R3),k _ _ ⟨⟨_,_,_,_,rfl⟩,?_⟩⟩;have iY:=ig.Ym ra (y:=(gP tX (some k1) (1 + d7))) (ys:=(tX.map V.int).set k1 (V.int (aH tX k1 + (1 + d7)))) (by rw [<-yP];rfl);rw [A4] at iY;have e6:([sel way (a0 - ((1 + d7) - eN (some k1) (1 + d7))) a0,sel way a1 (a1 - ((1 + d7) - eN (some k1) (1 + d7)))]:List Int)=[a0,a1]:=by
      show [sel way (a0 - ((1 + d7) - (1 + d7))) a0,sel way a1 (a1 - ((1 + d7) - (1 + d7)))]=_;rw [Int.sub_self,Int.sub_zero,Int.sub_zero];rcases hw with rfl | rfl <;> rfl
     rw [e6];exact iY
  ·rintro σ H8 ⟨g0,g1,a0,a1,tX,tU,bs',aL,aO,⟨lG,Px,X4,v20,ni,OE,MT,Pw,OD,J6,rfl⟩,ri,rh⟩;have k3:=rh.ls 3 (by decide);rw [A3] at k3;refine ⟨_,rfl,gv,_,_,_,rfl,rfl,aB.of k3,rfl,_,rfl,gv,_,_,_,rfl,rfl,aB.of k3,rfl,_,rfl,_,rfl,Rn,λx hx=>?_⟩;have sx:=xT (o:=HO.tup [V.int g0,V.int g1,V.ref bg,V.ref cm]) hx;have Qj:=rh.same sx;have fx:H x=none:=rh.fresh hx;refine q ⟨x,bg,cm,⟨g0,g1,tX,tU⟩⟩ bs' aL aO _ (λc u m0 m1 m2 m3 e=>Qj.kp c u m0 (by rw [A0];exact m1) (by rw [A1];exact m2) (by rw [A2];exact m3) e) Qj.pu (by have:=Qj.ls 0 (by decide);rwa [A0] at this) (by have:=Qj.ls 1 (by decide);rwa [A1] at this) (by have:=Qj.ls 2 (by decide);rwa [A2] at this) ⟨xQ,by have:=Qj.ls 4 (by decide);rwa [A4] at this,by have:=Qj.ls 5 (by decide);rwa [A5] at this⟩ ⟨fx,JA,Jz⟩ (ri.done hrr bs0)
theorem Dm:aF ["_law_purse_here", "_law_loads", "_law_wants", "_law_state", "_law_found", "_law_k", "_law_j", "_law_most", "_law_some"] ["_law_purse_here", "_law_loads", "_law_wants", "_law_state"] (aj wI):=L2.bw
theorem Fg (T:Tx K mg a):aW P w K mg base dQ 2 a.As a.AT ["_law_purse_here", "_law_loads", "_law_wants", "_law_state"] (Nd):=by
 have Aa:=wO P w base T;refine T.AE.ok Dm (λvs H Q E h=>?_) (λbO A outer s H vs Q E hr h=>?_)
 ·obtain ⟨_,_,_,_,_,_,_,_,_,_,_,rfl,_⟩:=h;rfl
 ·have nd:=Dm.nd;have hu:=hr.units;obtain ⟨p,ll,lw,st,lb,lr,lk,ls,ws,rs,ks,rfl,hp,hl,hW,lT,⟨nQ,mG⟩,⟨V5,R1,R0⟩,⟨⟨YV,YU,To⟩,YM,RY,RX⟩,⟨er,ek,l8,w8⟩,VQ,Zn,q⟩:=h;refine bP ?_;intro Y
  let B0:Bk Y ((af wI).drop 2):=⟨_,(xU (xu (xq (xi (xh rfl) (xw (xP (xR (pv 4) (xR (NN rfl (pv 4)) xW rfl) rfl))) (xZ Aa (hr.mono (by decide)) rfl T.Ab T.Ac T.Ae .nil aq (xP (xR (pv 0) (xR xS xW rfl) rfl))) (λ_ _=>rfl)))))⟩
  let B1:Bk Y ((nb (nb (nb (af wI) 1) 0) 1).drop 3):=⟨_,(xU (xu (xk (i:=4) nd rfl rfl (xm qS (pv 4) (xm fh (xw (xP (xR (wS (xP (xR (pv 5) (xR (pv 6) (xR (pv 8) xW rfl) rfl) rfl))) xW rfl))) (wK (dF) (by rfl) T.jq yS (xP (xR (wf fG (pv 8) xS (av _)) xW rfl))))))))⟩
  let B2:Bk Y ((nb (nb (nb (af wI) 1) 0) 1).drop 2):=⟨_,(xU (xl (wG (xm wW (xi (xh rfl) (xi (xo rfl) (pv 3) xS (λ_ _=>rfl)) (pv 6) (λ_ _=>rfl)) (pv 8)) (wy (xi (xo rfl) (pv 3) xS (λ_ _=>rfl)) (pv 6) wJ)) B1.bl))⟩
  let B3:Bk Y ((nb (nb (nb (af wI) 1) 0) 1).drop 1):=⟨_,(xU (xl (wG (xm wW (xi (xh rfl) (xi (xo rfl) (pv 3) xS (λ_ _=>rfl)) (pv 5) (λ_ _=>rfl)) (pv 8)) (wy (xi (xo rfl) (pv 3) xS (λ_ _=>rfl)) (pv 5) wJ)) B2.bl))⟩
  let B4:Bk Y (nb (nb (nb (af wI) 1) 0) 1):=⟨_,(xU (xl (xk (i:=8) nd rfl rfl (xZ Aa (hr.mono (by decide)) rfl T.Ab T.Ac T.Ae .nil aq (xP (xR (pv 0) (xR (xm wR (pv 7) xS) xW rfl) rfl)))) B3.bl))⟩
  let B5:Bk Y ((nb (nb (af wI) 1) 0).drop 1):=⟨_,(xU (xu (xx (@PW.pt _ _ _ (dH (xp qA (xi (xo rfl) (xi (xh rfl) (pv 1) (pv 5) (λ_ _=>rfl)) xS (λ_ _=>rfl)) (xi (xo rfl) (xi (xh rfl) (pv 2) (pv 6) (λ_ _=>rfl)) xS (λ_ _=>rfl)) (av _)) (dH (xp cR (xi (xo rfl) (xi (xh rfl) (pv 1) (pv 5) (λ_ _=>rfl)) xS (λ_ _=>rfl)) (xi (xo rfl) (xi (xh rfl) (pv 2) (pv 6) (λ_ _=>rfl)) xS (λ_ _=>rfl)) (av _)) (dc (xp fG (pv 7) xS (av _)))))) B4.ps xr)))⟩
  let B6:Bk Y (nb (nb (af wI) 1) 0):=⟨_,(xU (xl (xk (i:=7) nd rfl rfl (xf (dD rfl) (by rfl) T.lu yc (xP (xR (xi (xh rfl) (xi (xo rfl) (pv 3) xS (λ_ _=>rfl)) (pv 5) (λ_ _=>rfl)) (xR (xi (xh rfl) (xi (xo rfl) (pv 3) xS (λ_ _=>rfl)) (pv 6) (λ_ _=>rfl)) xW rfl) rfl)))) B5.bl))⟩
  let B7:Bk Y (nb (af wI) 1):=⟨_,(xU (xu (qP PassesOwn.never rfl (wV rfl T.aU (xP (xR (xf (xg rfl) (by rfl) T.aJ PySem.boot_len (xP (xR (pv 2) xW rfl))) xW rfl))) (xX (i:=6) nd rfl rfl) B6.ps)))⟩
  let B8:Bk Y ((af wI).drop 1):=⟨_,(xU (xl (qP PassesOwn.never rfl (wV rfl T.aU (xP (xR (xf (xg rfl) (by rfl) T.aJ PySem.boot_len (xP (xR (pv 1) xW rfl))) xW rfl))) (xX (i:=5) nd rfl rfl) B7.ps) B0.bl))⟩
  refine ⟨_,(xU (xl (xk (i:=4) nd rfl rfl (xw qU)) B8.bl)),?_⟩;have line:=bf;have lU:(2:Int) ^ 200 > 10000:=by decide
  have uW:(ls.map (·.2)).length=ls.length:=zA _;have ud:(ws.map (·.2)).length=ws.length:=zA _;have st0:eW (ls.map (·.2)) (ws.map (·.2)) rs ks [] rs ks:=⟨nofun,nofun,List.nodup_nil,by rw [uW];exact er,by rw [ud];exact ek,λy hy=>(VQ y hy).1,Zn,λk _=>by show _=_ - (0:Int);omega,λk _=>by show _=_ - (0:Int);omega⟩;have keep:∀ {Hx:Hp}{c:Addr}{xs:List V},(∀ c u,c≠p->c≠lr->c≠lk->H c=some u->Hx c=some u)->H c=some (.tup xs)->Hx c=some (.tup xs):=λ{Hx c xs} k e=>k c _ (hp.tup e) (qe e nQ (by intro z;cases z)) (qe e mG (by intro z;cases z)) e;have sk:∀ {Hx:Hp},(∀ c u,c≠p->c≠lr->c≠lk->H c=some u->Hx c=some u)->aE Hx ll ls/\aE Hx lw ws/\Hx st=some (.tup [.ref lb,.ref lr,.ref lk]):=λ{Hx} k=>⟨⟨k _ _ YV YU To hl.l,λa ha=>keep k (hl.each a ha)⟩,⟨k _ _ YM RY RX hW.l,λa ha=>keep k (hW.each a ha)⟩,keep k lT⟩;refine ⟨zx _,λf0 Wv=>?_⟩;have s1:=xT (o:=HO.lst []) Wv;have kf1:upd H f0 (HO.lst []) f0=some (.lst []):=xQ;have ge1:∀ c u,c≠p->c≠lr->c≠lk->H c=some u->upd H f0 (HO.lst []) c=some u:=λc u _ _ _ e=>s1 _ _ e;have VU:aK (upd H f0 (HO.lst [])) p:=hp.new Wv;generalize upd H f0 (HO.lst [])=H1 at s1 kf1 ge1 VU ⊢;refine (zr rfl ⟨ll,zr rfl ⟨.inl (aB.of (s1 _ _ hl.l)),zr rfl ⟨by rw [zA];omega,by rw [zA];omega,?_⟩⟩⟩);rw [zA]
  let Fr:Nat->Nat->Hp->V->Prop:=λk j H' v=>∃ (f:Addr) (ts:List (Addr×T3)) (aL aO:List Int),v=V.ref f/\(∀ c u,c≠p->c≠lr->c≠lk->H c=some u->H' c=some u)/\aK H' p/\H' lr=some (.lst (aL.map V.int))/\H' lk=some (.lst (aO.map V.int))/\H f=none/\f≠p/\H' f=some (.lst (ts.map λx=>V.ref x.1))/\(∀ x∈ts,H' x.1=some (.tup [.int x.2.k,.int x.2.j,.int x.2.m]))/\ts.length<=8 * k + j/\eW (ls.map (·.2)) (ws.map (·.2)) rs ks (ts.map (·.2)) aL aO/\Po (ts.map (·.2)) k j/\(∀ y∈aL,y<=99)
  refine (let W20:IV:=λk σ H8=>∃ v,(∃ v5 v6 v7 v8,σ=[some (.ref p),some (.ref ll),some (.ref lw),some (.ref st),some v,v5,v6,v7,v8])/\Fr k 0 H8 v;wq (lo:=0) (n:=ls.length) W20 ⟨_,⟨_,_,_,_,rfl⟩,f0,[],rs,ks,rfl,ge1,VU,s1 _ _ nQ,s1 _ _ mG,Wv,hp.ne Wv,kf1,nofun,by simp,st0,nofun,λy hy=>(VQ y hy).2⟩ ?_ ?_)
  ·rintro k σ H8 hk ⟨_,⟨v5,v6,v7,v8,rfl⟩,f,ts,aL,aO,rfl,ge,pu,kF,nN,hf,NS,kf,kt,lt,so,ah,MD⟩;obtain ⟨MI,Lw,ZX⟩:=sk ge;refine (zr rfl ⟨lw,zr rfl ⟨.inl (aB.of Lw.l),zr rfl ⟨by rw [zA];omega,by rw [zA];omega,?_⟩⟩⟩);rw [zA];refine (let W21:IV:=λj σ H9=>∃ v,(∃ v6 v7 v8,σ=[some (.ref p),some (.ref ll),some (.ref lw),some (.ref st),some v,some (.int (0 + (k:Int))),v6,v7,v8])/\Fr k j H9 v;wq (lo:=0) (n:=ws.length) W21 ⟨_,⟨_,_,_,rfl⟩,f,ts,aL,aO,rfl,ge,pu,kF,nN,hf,NS,kf,kt,lt,so,ah,MD⟩ ?_ ?_)
   ·clear MI Lw ZX MD ah so lt kt kf NS hf nN kF pu ge ts aL aO f;rintro j σ H9 hj ⟨_,⟨v6,v7,v8,rfl⟩,f,ts,aL,aO,rfl,ge,pu,kF,nN,hf,NS,kf,kt,lt,so,ah,MD⟩;obtain ⟨LF,UC,N8⟩:=sk ge;have Jd:aL.length=ls.length:=by rw [so.rl,uW]
    have Lk:aO.length=ws.length:=by rw [so.kl,ud]
    have atr:bQ (aL.map V.int) (0 + (k:Int))=some (V.int (aH aL k)):=by rw [yB];exact wA (by rw [zD,wY (by omega)];rfl)
    have atk:bQ (aO.map V.int) (0 + (j:Int))=some (V.int (aH aO j)):=by rw [yB];exact wA (by rw [zD,wY (by omega)];rfl)
    have atl:bQ (ls.map λa=>V.ref a.1) (0 + (k:Int))=some (V.ref ls[k].1):=by rw [yB];exact wA (by rw [zD,zF hk];rfl)
    have atw:bQ (ws.map λa=>V.ref a.1) (0 + (j:Int))=some (V.ref ws[j].1):=by rw [yB];exact wA (by rw [zD,zF hj];rfl)
    have tl:=LF.each _ (yC hk);have tw:=UC.each _ (yC hj);have b1:=so.r0 _ (qT (show k < aL.length by omega));have b2:=MD _ (qT (show k < aL.length by omega));have b3:=so.k0 _ (qT (show j < aO.length by omega));refine (zr rfl (bH N8 rfl (zr rfl (bL kF atr (zr rfl (bH N8 rfl (zr rfl (bL nN atk (lV rfl ?_)))))))));obtain ⟨M,eM,m1,m2⟩:∃ M:Int,(if aH aO j < aH aL k then aH aO j else aH aL k)=M/\M<=aH aL k/\M<=aH aO j:=⟨_,rfl,by split <;> omega,by split <;> omega⟩;rw [eM];have nx:∀ (x y:Option V),(∃ v,(∃ v6 v7 v8,[some (V.ref p),some (.ref ll),some (.ref lw),some (.ref st),some (V.ref f),some (.int (0 + (k:Int))),some (V.int (0 + (j:Int))),x,y]=[some (V.ref p),some (.ref ll),some (.ref lw),some (.ref st),some v,some (.int (0 + (k:Int))),v6,v7,v8])/\Fr k (j + 1) H9 v):=λx y=>⟨_,⟨_,_,_,rfl⟩,f,ts,aL,aO,rfl,ge,pu,kF,nN,hf,NS,kf,kt,by omega,so,λt ht=>by rcases ah t ht with q | ⟨q1,q2⟩;exact .inl q;exact .inr ⟨q1,by omega⟩,MD⟩;refine (zr rfl (zr rfl (bL LF.l atl (bH tl rfl (zr rfl (zr rfl (bL UC.l atw (bH tw rfl ⟨rfl,zr rfl ?_⟩))))))));by_cases c1:ls[k].2.w=ws[j].2.w
    rotate_left
    ·exact aA (decide_eq_false λz=>c1 (V.int.inj z)) (aA rfl (nx _ _))
    refine ak (decide_eq_true (by rw [c1])) ?_;refine (zr rfl (zr rfl (bL LF.l atl (bH tl rfl (zr rfl (zr rfl (bL UC.l atw (bH tw rfl (aG rfl rfl (zr rfl ?_))))))))));by_cases c2:ls[k].2.t<=ws[j].2.t
    rotate_left
    ·exact aA (decide_eq_false c2) (aA rfl (nx _ _))
    refine ak (decide_eq_true c2) (zr rfl (aG rfl rfl (zr rfl ?_)));by_cases c3:M > 0
    rotate_left
    ·exact aA (decide_eq_false c3) (nx _ _)
    refine ak (decide_eq_true c3) ?_;refine (zr rfl (zr rfl (aG rfl rfl ⟨p,zr rfl ⟨by omega,by omega,pu,λd eX d0 d1 cX=>?_⟩⟩)));have vd:=cX.1 _ _ (pu.tup N8) N8;have uX:=cX.1 _ _ R1 kF;have T9:=cX.1 _ _ R0 nN;have Zy:=cX.1 _ _ NS kf;have T4:∀ x∈ts,eX x.1=some (.tup [.int x.2.k,.int x.2.j,.int x.2.m]):=λx hx=>cX.aS pu _ _ (kt x hx);have ge10:∀ c u,c≠p->c≠lr->c≠lk->H c=some u->eX c=some u:=λc u m0 m1 m2 e=>cX.1 _ _ m0 (ge c u m0 m1 m2 e);have YW:f≠lr:=λz=>by rw [z,nQ] at hf;cases hf
    have YX:f≠lk:=λz=>by rw [z,mG] at hf;cases hf
    have ixr:tE (aL.map V.int).length (0 + (k:Int))=some k:=by rw [yB];exact qK (by rw [zA];omega)
    have ixk:tE (aO.map V.int).length (0 + (j:Int))=some j:=by rw [yB];exact qK (by rw [zA];omega)
    refine (zr rfl (bH vd rfl (zr rfl (bL uX atr (zr rfl (aG rfl rfl (zr rfl (bH vd rfl (zr rfl ⟨lr,_,_,k,rfl,rfl,uX,ixr,?_⟩)))))))));have su:∀ {c:Addr}{u:HO}{x:HO},c≠lr->eX c=some u->upd eX lr x c=some u:=λn e=>by rw [xj n];exact e
    have OY:upd eX lr (HO.lst ((aL.map V.int).set k (V.int (aH aL k - d)))) lr=some (.lst ((aL.set k (aH aL k - d)).map V.int)):=by rw [xQ,yP]
    have Lz:=su (x:=HO.lst ((aL.map V.int).set k (V.int (aH aL k - d)))) (qe vd uX (by intro z;cases z)) vd;have uY:=su (x:=HO.lst ((aL.map V.int).set k (V.int (aH aL k - d)))) V5.symm T9;have Ue:=su (x:=HO.lst ((aL.map V.int).set k (V.int (aH aL k - d)))) YW Zy;have Jh:∀ x∈ts,upd eX lr (HO.lst ((aL.map V.int).set k (V.int (aH aL k - d)))) x.1=some (.tup [.int x.2.k,.int x.2.j,.int x.2.m]):=λx hx=>su (qe (T4 x hx) uX (by intro z;cases z)) (T4 x hx);have U6:∀ c u,c≠p->c≠lr->c≠lk->H c=some u->upd eX lr (HO.lst ((aL.map V.int).set k (V.int (aH aL k - d)))) c=some u:=λc u m0 m1 m2 e=>su m1 (ge10 c u m0 m1 m2 e);have Qq:aK (upd eX lr (HO.lst ((aL.map V.int).set k (V.int (aH aL k - d))))) p:=by obtain ⟨a,b,c,e⟩:=cX.2;exact ⟨a,b,c,su R1.symm e⟩
    clear su;generalize upd eX lr (HO.lst ((aL.map V.int).set k (V.int (aH aL k - d))))=fX at OY Lz uY Ue Jh U6 Qq ⊢;refine (zr rfl (bH Lz rfl (zr rfl (bL uY atk (zr rfl (aG rfl rfl (zr rfl (bH Lz rfl (zr rfl ⟨lk,_,_,j,rfl,rfl,uY,ixk,?_⟩)))))))));have su:∀ {c:Addr}{u:HO}{x:HO},c≠lk->fX c=some u->upd fX lk x c=some u:=λn e=>by rw [xj n];exact e
    have p6:upd fX lk (HO.lst ((aO.map V.int).set j (V.int (aH aO j - d)))) lk=some (.lst ((aO.set j (aH aO j - d)).map V.int)):=by rw [xQ,yP]
    have p5:=su (x:=HO.lst ((aO.map V.int).set j (V.int (aH aO j - d)))) V5 OY;have Ud:=su (x:=HO.lst ((aO.map V.int).set j (V.int (aH aO j - d)))) YX Ue;have QK:∀ x∈ts,upd fX lk (HO.lst ((aO.map V.int).set j (V.int (aH aO j - d)))) x.1=some (.tup [.int x.2.k,.int x.2.j,.int x.2.m]):=λx hx=>su (qe (Jh x hx) uY (by intro z;cases z)) (Jh x hx);have Od:∀ c u,c≠p->c≠lr->c≠lk->H c=some u->upd fX lk (HO.lst ((aO.map V.int).set j (V.int (aH aO j - d)))) c=some u:=λc u m0 m1 m2 e=>su m2 (U6 c u m0 m1 m2 e);have NG:aK (upd fX lk (HO.lst ((aO.map V.int).set j (V.int (aH aO j - d))))) p:=by obtain ⟨a,b,c,e⟩:=Qq;exact ⟨a,b,c,su R0.symm e⟩
    clear su;generalize upd fX lk (HO.lst ((aO.map V.int).set j (V.int (aH aO j - d))))=lI at p6 p5 Ud QK Od NG ⊢;refine (zr rfl (zr rfl (zr rfl (zr rfl ⟨by show 3<=_;omega,λu hu=>⟨by show 1<=_;omega,λy1 Lu=>?_⟩⟩))));have rR:=ay.trans (xT (o:=HO.tup [V.int (0 + (k:Int)),V.int (0 + (j:Int)),V.int d]) hu) (xT (o:=HO.lst [V.ref u]) Lu);have TY:upd (upd lI u (HO.tup [V.int (0 + (k:Int)),V.int (0 + (j:Int)),V.int d])) y1 (HO.lst [V.ref u]) u=some (.tup [.int (k:Int),.int (j:Int),.int d]):=by rw [xj (λz=>by rw [z,xQ] at Lu;cases Lu),xQ,yB,yB]
    have TV:upd (upd lI u (HO.tup [V.int (0 + (k:Int)),V.int (0 + (j:Int)),V.int d])) y1 (HO.lst [V.ref u]) y1=some (.lst [V.ref u]):=xQ;generalize upd (upd lI u (HO.tup [V.int (0 + (k:Int)),V.int (0 + (j:Int)),V.int d])) y1 (HO.lst [V.ref u])=JK at rR TY TV ⊢;have MP:∀ b:Bool,-(2:Int) ^ 63<=(if b=true then 1 else 0)/\(if b=true then (1:Int) else 0) < 2 ^ 63/\([V.ref u]:List V).length * Int.toNat (if b=true then 1 else 0)<=sizeLine:=λb=>by
     cases b
     ·exact ⟨by decide,by decide,by show 1 * 0<=_;omega⟩
     ·exact ⟨by decide,by decide,by show 1 * 1<=_;omega⟩
    have k7:k<=7:=by omega
    have j7:j<=7:=by omega
    refine (zr rfl (aG rfl rfl (.inr (zr rfl ⟨y1,aG rfl rfl ⟨TV,(MP _).1,(MP _).2.1,(MP _).2.2,λy2 lH=>⟨f,y2,aG rfl rfl ⟨xT lH _ _ (rR _ _ Ud),xQ,?_,λy3 JS=>?_⟩⟩⟩⟩))))
    ·rw [zA];split <;> simp only [Int.toNat_one,Int.toNat_zero,List.replicate,xB,List.flatten_nil,zO,zH,zL] <;> omega
    have oZ:=rR.trans (ay.trans (xT lH) (xT (o:=HO.lst ((ts.map λx=>V.ref x.1)++(List.replicate (Int.toNat (if decide (0 < d)=true then 1 else 0)) [V.ref u]).flatten)) JS));have QJ:=xQ (H:=upd JK y2 (HO.lst (List.replicate (Int.toNat (if decide (0 < d)=true then 1 else 0)) [V.ref u]).flatten)) (a:=y3) (o:=HO.lst ((ts.map λx=>V.ref x.1)++(List.replicate (Int.toNat (if decide (0 < d)=true then 1 else 0)) [V.ref u]).flatten));have TX:=(ay.trans (xT lH) (xT (o:=HO.lst ((ts.map λx=>V.ref x.1)++(List.replicate (Int.toNat (if decide (0 < d)=true then 1 else 0)) [V.ref u]).flatten)) JS)) _ _ TY;have aaB:∀ c uu,c≠p->c≠lr->c≠lk->H c=some uu->upd JK y2 (HO.lst (List.replicate (Int.toNat (if decide (0 < d)=true then 1 else 0)) [V.ref u]).flatten) c=some uu:=λc uu m0 m1 m2 e=>xT lH _ _ (rR _ _ (Od c uu m0 m1 m2 e));have Tc:aK (upd JK y2 (HO.lst (List.replicate (Int.toNat (if decide (0 < d)=true then 1 else 0)) [V.ref u]).flatten)) p:=by obtain ⟨a,b,c,e⟩:=NG;exact ⟨a,b,c,xT lH _ _ (rR _ _ e)⟩
    have Uz:H y3=none:=by
     cases z:H y3 with
     | none=>rfl
     | some uu=>
      have:=aaB y3 uu (Tc.ne JS) (λz2=>by rw [z2,xT lH _ _ (rR _ _ p5)] at JS;cases JS) (λz2=>by rw [z2,xT lH _ _ (rR _ _ p6)] at JS;cases JS) z;rw [this] at JS;cases JS
    have ny3:y3≠p:=Tc.ne JS;generalize upd (upd JK y2 (HO.lst (List.replicate (Int.toNat (if decide (0 < d)=true then 1 else 0)) [V.ref u]).flatten)) y3 (HO.lst ((ts.map λx=>V.ref x.1)++(List.replicate (Int.toNat (if decide (0 < d)=true then 1 else 0)) [V.ref u]).flatten))=Pn at oZ QJ TX ⊢;by_cases c5:0 < d
    ·refine ⟨_,⟨_,_,_,rfl⟩,y3,ts++[(u,⟨k,j,d⟩)],aL.set k (aH aL k - d),aO.set j (aH aO j - d),rfl,λc uu m0 m1 m2 e=>oZ _ _ (Od c uu m0 m1 m2 e),by obtain ⟨a,b,c,e⟩:=NG;exact ⟨a,b,c,oZ _ _ e⟩,oZ _ _ p5,oZ _ _ p6,Uz,ny3,?_,λx hx=>?_,by rw [zU];show ts.length + 1<=_;omega,?_,λt ht=>?_,iZ (P:=λy=>y<=99) MD (by omega)⟩
     ·rw [QJ,if_pos (decide_eq_true c5),zB];rfl
     ·rcases zV.mp hx with h | h
      ·exact oZ _ _ (QK x h)
      ·rw [zE.mp h];exact TX
     ·have:=so.step (k:=k) (j:=j) (s:=d) (l:=ls[k].2) (w:=ws[j].2) ah (by rw [zD,zF hk];rfl) (by rw [zD,zF hj];rfl) (by unfold ia;rw [decide_eq_true c1,decide_eq_true c2];rfl) c5 (by omega) (by omega);rw [zB];exact this
     ·rw [zB] at ht;rcases zV.mp ht with h | h
      ·rcases ah t h with q | ⟨q1,q2⟩
       ·exact .inl q
       ·exact .inr ⟨q1,by omega⟩
      ·rw [zE.mp h];exact .inr ⟨rfl,by show (j:Int) < ((j + 1:Nat):Int);omega⟩
    ·have d00:d=0:=by omega
     subst d00;rw [sF (by omega)] at p5 p6;refine ⟨_,⟨_,_,_,rfl⟩,y3,ts,aL,aO,rfl,λc uu m0 m1 m2 e=>oZ _ _ (Od c uu m0 m1 m2 e),by obtain ⟨a,b,c,e⟩:=NG;exact ⟨a,b,c,oZ _ _ e⟩,oZ _ _ p5,oZ _ _ p6,Uz,ny3,?_,λx hx=>oZ _ _ (QK x hx),by omega,so,λt ht=>?_,MD⟩
     ·rw [QJ];show some (HO.lst (_++[]))=_;rw [zO]
     ·rcases ah t ht with q | ⟨q1,q2⟩
      ·exact .inl q
      ·exact .inr ⟨q1,by omega⟩
   ·rintro σ H9 ⟨_,⟨v6,v7,v8,rfl⟩,f,ts,aL,aO,rfl,ge,pu,kF,nN,hf,NS,kf,kt,lt,so,ah,MD⟩;exact ⟨_,⟨_,_,_,_,rfl⟩,f,ts,aL,aO,rfl,ge,pu,kF,nN,hf,NS,kf,kt,by omega,so,λt ht=>by rcases ah t ht with q | ⟨q1,q2⟩;exact .inl (by omega);exact .inl (by omega),MD⟩
  ·rintro σ H8 ⟨_,⟨v5,v6,v7,v8,rfl⟩,f,ts,aL,aO,rfl,ge,pu,kF,nN,hf,NS,kf,kt,lt,so,ah,MD⟩;have kl0:ls.length<=8:=l8;refine (zr rfl (zr rfl ⟨f,zr rfl ⟨aB.of kf,λf2 O6=>?_⟩⟩));have s9:=xT (o:=HO.lst (ts.map λx=>V.ref x.1).reverse) O6;have kf2:upd H8 f2 (HO.lst (ts.map λx=>V.ref x.1).reverse) f2=some (.lst (ts.reverse.map λx=>V.ref x.1)):=by rw [xQ,List.map_reverse]
   have nf2:f2≠p:=pu.ne O6;have aap:H f2=none:=by
    cases z:H f2 with
    | none=>rfl
    | some uu=>
     have:=ge f2 uu nf2 (λz2=>by rw [z2,kF] at O6;cases O6) (λz2=>by rw [z2,nN] at O6;cases O6) z;rw [this] at O6;cases O6
   generalize upd H8 f2 (HO.lst (ts.map λx=>V.ref x.1).reverse)=H9 at s9 kf2 ⊢;refine ⟨by show 2<=_;omega,λf3 hf3=>?_⟩;have gj:=xT (o:=HO.lst [V.ref f,V.ref f2]) hf3;have Zx:upd H9 f3 (HO.lst [V.ref f,V.ref f2]) f3=some (.lst [V.ref f,V.ref f2]):=xQ;have nE:=s9.trans gj;have sL:aK (upd H9 f3 (HO.lst [V.ref f,V.ref f2])) p:=by obtain ⟨a,b,c,e⟩:=pu;exact ⟨a,b,c,nE _ _ e⟩
   have nf3:f3≠p:=by obtain ⟨a,b,c,e⟩:=pu;exact (xV (s9 _ _ e) hf3).symm
   generalize upd H9 f3 (HO.lst [V.ref f,V.ref f2])=eX at gj Zx nE sL ⊢;refine (zr rfl ⟨p,zr rfl ⟨by decide,by decide,sL,λd fX d0 d1 kO=>?_⟩⟩);have gx:∀ c u,c≠p->c≠lr->c≠lk->H c=some u->fX c=some u:=λc u m0 m1 m2 e=>kO.1 _ _ m0 (nE _ _ (ge c u m0 m1 m2 e));have Jh:∀ x∈ts,fX x.1=some (.tup [.int x.2.k,.int x.2.j,.int x.2.m]):=λx hx=>kO.aS sL _ _ (nE _ _ (kt x hx));obtain rfl | rfl:d=0\/d=1:=by omega
   ·exact (bL (kO.1 _ _ nf3 Zx) rfl (q f ts aL aO fX gx kO.2 (kO.1 _ _ R1 (nE _ _ kF)) (kO.1 _ _ R0 (nE _ _ nN)) hf (kO.1 _ _ NS (nE _ _ kf)) Jh (by omega) so))
   ·exact (bL (kO.1 _ _ nf3 Zx) rfl (q f2 ts.reverse aL aO fX gx kO.2 (kO.1 _ _ R1 (nE _ _ kF)) (kO.1 _ _ R0 (nE _ _ nN)) aap (kO.1 _ _ nf2 (gj _ _ kf2)) (λx hx=>Jh x (List.mem_reverse.mp hx)) (by rw [List.length_reverse];omega) (by rw [List.map_reverse];exact so.perm (List.reverse_perm _))))
theorem ET:aF ["_law_script", "_law_head", "_law_book_here", "_law_loads", "_law_wants", "_law_first", "_law_state", "_law_early", "_law_at_once", "_law_rows", "_law_k"] ["_law_script", "_law_head", "_law_book_here", "_law_loads", "_law_wants", "_law_first"] (aj wo):=L2.bw
theorem G9 (T:Tx K mg a):aW P w K mg base dQ 3 a.Bp a.Cn ["_law_script", "_law_head", "_law_book_here", "_law_loads", "_law_wants", "_law_first"] (KA K):=by
 have Bs:=Db P w base T;have Aa:=wO P w base T;have ID:=HA P w base T;have DW:=Fg P w base T;refine T.BP.ok ET (λvs H Q E h=>?_) (λbO A outer s H vs Q E hr h=>?_)
 ·obtain ⟨_,_,_,_,_,_,_,_,_,_,_,_,_,_,rfl,_⟩:=h;rfl
 ·have nd:=ET.nd;have hu:=hr.units;obtain ⟨sa,hd,b,ll,lw,aa,tr,tm,ps,ls,ws,ns,n,H0,rfl,Z1,Tt,h0,Yi,NU,hb,gd,r1,Qo,Yu,hp,hl,hW,⟨QE,RZ⟩,l8,w8,lm,wm,q⟩:=h;refine bP ?_;intro Y
  let B0:Bk Y (nb (af wo) 6):=⟨_,(xU (xu (xk (i:=8) nd rfl rfl (xZ DW (hr.mono (by decide)) rfl T.DS T.DU T.DV .nil aq (xP (xR (pv 1) (xR (pv 3) (xR (pv 4) (xR (pv 6) xW rfl) rfl) rfl) rfl))))))⟩
  let B1:Bk Y ((af wo).drop 6):=⟨_,(xU (xl (xx (wN (wQ (pv 7))) B0.ps xr) (xu (xq (wS (xP (xR (wS (xP (xR (pv 9) (xR (pv 8) xW rfl) rfl))) (xR (xi (xo rfl) (pv 6) xS (λ_ _=>rfl)) xW rfl) rfl)))))))⟩
  let B2:Bk Y (nb (af wo) 5):=⟨_,(xU (xu (jD (uM PySem.F.plainAttrs_list PySem.F.slot_list_append PySem.F.type_list_append f6 (pv 9) (xP (xR (xZ ID (hr.mono (by decide)) rfl T.Ip T.Ir T.Iw .nil aq (xP (xR (xZ Bs (hr.mono (by decide)) rfl T.Cr T.Cs T.Ct .nil aq (xP (xR (pv 0) (xR (xm wR (pv 5) (pv 10)) xW rfl) rfl))) (xR (xi (xo rfl) (pv 2) xS (λ_ _=>rfl)) (xR (xi (xo rfl) (xi (xo rfl) (pv 2) xS (λ_ _=>rfl)) (pv 10) (λ_ _=>rfl)) (xR (pv 3) (xR (pv 4) (xR (pv 6) xW rfl) rfl) rfl) rfl) rfl) rfl))) xW rfl))))))⟩
  let B3:Bk Y ((af wo).drop 5):=⟨_,(xU (xl (qP PassesOwn.never rfl (wV rfl T.aU (xP (xR (xf (xg rfl) (by rfl) T.aJ PySem.boot_len (xP (xR (xi (xo rfl) (pv 2) xS (λ_ _=>rfl)) xW rfl))) xW rfl))) (xX (i:=10) nd rfl rfl) B2.ps) B1.bl))⟩
  let B4:Bk Y (nb (af wo) 3):=⟨_,(xU (xu (xk (i:=8) nd rfl rfl (xZ DW (hr.mono (by decide)) rfl T.DS T.DU T.DV .nil aq (xP (xR (pv 1) (xR (pv 3) (xR (pv 4) (xR (pv 6) xW rfl) rfl) rfl) rfl))))))⟩
  let B5:Bk Y ((af wo).drop 1):=⟨_,(xU (xl (xk (i:=7) nd rfl rfl (wf qA (xZ Aa (hr.mono (by decide)) rfl T.Ab T.Ac T.Ae .nil aq (xP (xR (pv 1) (xR xS xW rfl) rfl))) xS (av _))) (xl (xk (i:=8) nd rfl rfl (xw qU)) (xl (xx (wQ (pv 7)) B4.ps xr) (xl (xk (i:=9) nd rfl rfl (xw qU)) B3.bl)))))⟩
  refine ⟨_,(xU (xl (xk (i:=6) nd rfl rfl (wS (xP (xR (xm fh (xw (xP (xR xS xW rfl))) (xf (xg rfl) (by rfl) T.aJ PySem.boot_len (xP (xR (xi (xo rfl) (pv 2) xS (λ_ _=>rfl)) xW rfl)))) (xR (wc (own:=["_law_load"]) (caps:=[]) rfl (show aD ["_law_load"] [] ["_law_script", "_law_head", "_law_book_here", "_law_loads", "_law_wants", "_law_first", "_law_state", "_law_early", "_law_at_once", "_law_rows", "_law_k"] (aj wo) _ from L2.b8) (wZ rfl (pv 3)) (λ_ _ _ _=>(xX (i:=0) (show List.Nodup (["_law_load"]:List Str) from by decide +kernel) rfl rfl)) (λ_ _ _ _=>wP) (λ_ _ _ _=>(xi (xo rfl) (pv 0) xS (λ_ _=>rfl)))) (xR (wc (own:=["_law_want"]) (caps:=[]) rfl (show aD ["_law_want"] [] ["_law_script", "_law_head", "_law_book_here", "_law_loads", "_law_wants", "_law_first", "_law_state", "_law_early", "_law_at_once", "_law_rows", "_law_k"] (aj wo) _ from L2.b8) (wZ rfl (pv 4)) (λ_ _ _ _=>(xX (i:=0) (show List.Nodup (["_law_want"]:List Str) from by decide +kernel) rfl rfl)) (λ_ _ _ _=>wP) (λ_ _ _ _=>(xi (xo rfl) (pv 0) xS (λ_ _=>rfl)))) xW rfl) rfl) rfl)))) B5.bl)),?_⟩;have line:=bf;have lU:(2:Int) ^ 200 > 10000:=by decide
  have Zg:=gd.len;have rl:(aa.map V.int).length=aa.length:=zA _;have Rv:∀ n:Nat,n<=100->-(2:Int) ^ 63<=(n:Int)/\(n:Int) < 2 ^ 63:=λn h=>⟨by omega,by omega⟩;refine ⟨by show 1<=_;omega,λz1 gA=>(zr rfl (bH ((hb.same (xT gA)).book) rfl ⟨tr,zr rfl ⟨.inr (aX.of (hb.same (xT gA)).aa),z1,aG rfl rfl ⟨xQ,by rw [rl];exact (Rv _ (by omega)).1,by rw [rl];exact (Rv _ (by omega)).2,by rw [rl,yA];show 1 * _<=_;omega,λlb kK=>?_⟩⟩⟩))⟩;rw [rl,yA,kR];have s1:=(xT (o:=HO.lst [V.int 0]) gA).trans (xT (o:=HO.lst ((List.replicate aa.length (0:Int)).map V.int)) kK);have kb1:upd (upd H z1 (HO.lst [V.int 0])) lb (HO.lst ((List.replicate aa.length (0:Int)).map V.int)) lb=some (.lst ((List.replicate aa.length (0:Int)).map V.int)):=xQ;have flb:H lb=none:=qq (xT gA) kK;generalize upd (upd H z1 (HO.lst [V.int 0])) lb (HO.lst ((List.replicate aa.length (0:Int)).map V.int))=H1 at s1 kb1 ⊢;refine (zr rfl ⟨ll,rfl,⟨_,aB.of (s1 _ _ hl.l)⟩,?_⟩);refine (let W22:IC:=λi τ acc H5=>(∃ t0,τ=[t0])/\acc=((ls.take i).map λa=>a.2.m).map V.int/\H1=H5;wT (K:=K) (a:=ll) (xs:=ls.map λa=>V.ref a.1) W22 ⟨⟨_,rfl⟩,rfl,rfl⟩ (by rw [zA];omega) ?_ ?_ ?_)
  ·rintro i τ acc H5 ⟨_,rfl,rfl⟩;exact ⟨by rw [zA,zA,zR];omega,aB.of (s1 _ _ hl.l)⟩
  ·rintro i v τ acc H5 C hv ⟨⟨t0,rfl⟩,rfl,rfl⟩ hC;obtain ⟨x,hx,rfl⟩:=wF hv;refine (zr rfl (bH (s1 _ _ (hl.each x (zC hx))) rfl (hC _ _ _ ⟨⟨_,rfl⟩,?_,rfl⟩)));rw [xv hx,zB,zB];rfl
  rintro τ acc H5 ⟨⟨t0,rfl⟩,rfl,rfl⟩ lr nQ;rw [zA,zd];have s2:=xT (o:=HO.lst ((ls.map λa=>a.2.m).map V.int)) nQ;have Zo:upd H1 lr (HO.lst ((ls.map λa=>a.2.m).map V.int)) lr=some (.lst ((ls.map λa=>a.2.m).map V.int)):=xQ;have YY:lb≠lr:=xV kb1 nQ;have LX:H lr=none:=qq s1 nQ;generalize upd H1 lr (HO.lst ((ls.map λa=>a.2.m).map V.int))=H2 at s2 Zo ⊢;have uF:=s1.trans s2;refine (zr rfl ⟨lw,rfl,⟨_,aB.of (uF _ _ hW.l)⟩,?_⟩);refine (let W23:IC:=λi τ acc H5=>(∃ t0,τ=[t0])/\acc=((ws.take i).map λa=>a.2.m).map V.int/\H2=H5;wT (K:=K) (a:=lw) (xs:=ws.map λa=>V.ref a.1) W23 ⟨⟨_,rfl⟩,rfl,rfl⟩ (by rw [zA];omega) ?_ ?_ ?_)
  ·rintro i τ acc H5 ⟨_,rfl,rfl⟩;exact ⟨by rw [zA,zA,zR];omega,aB.of (uF _ _ hW.l)⟩
  ·rintro i v τ acc H5 C hv ⟨⟨t0,rfl⟩,rfl,rfl⟩ hC;obtain ⟨x,hx,rfl⟩:=wF hv;refine (zr rfl (bH (uF _ _ (hW.each x (zC hx))) rfl (hC _ _ _ ⟨⟨_,rfl⟩,?_,rfl⟩)));rw [xv hx,zB,zB];rfl
  rintro τ acc H5 ⟨⟨t1,rfl⟩,rfl,rfl⟩ lk mG;rw [zA,zd];have s3:=xT (o:=HO.lst ((ws.map λa=>a.2.m).map V.int)) mG;have kk3:upd H2 lk (HO.lst ((ws.map λa=>a.2.m).map V.int)) lk=some (.lst ((ws.map λa=>a.2.m).map V.int)):=xQ;have YZ:lb≠lk:=xV (s2 _ _ kb1) mG;have YO:lr≠lk:=xV Zo mG;have LY:H lk=none:=qq uF mG;generalize upd H2 lk (HO.lst ((ws.map λa=>a.2.m).map V.int))=H3 at s3 kk3 ⊢;have vW:=uF.trans s3;refine ⟨by show 3<=_;omega,λst lT=>?_⟩;have s4:=xT (o:=HO.tup [V.ref lb,V.ref lr,V.ref lk]) lT;have V9:upd H3 st (HO.tup [V.ref lb,V.ref lr,V.ref lk]) st=some (.tup [.ref lb,.ref lr,.ref lk]):=xQ;generalize upd H3 st (HO.tup [V.ref lb,V.ref lr,V.ref lk])=H4 at s4 V9 ⊢;have uE:=vW.trans s4;have pn:PN H hd lb lr lk:=⟨flb,LX,LY,YY,YZ,YO,hp.ne flb,hp.ne LX,hp.ne LY⟩;have OR:PF H hd lb lr lk st (List.replicate aa.length 0) (ls.map λa=>a.2.m) (ws.map λa=>a.2.m) H4:=⟨by obtain ⟨a,b,c,e⟩:=hp;exact ⟨a,b,c,uE _ _ e⟩,λc u _ e=>uE _ _ e,s4 _ _ (s3 _ _ (s2 _ _ kb1)),s4 _ _ (s3 _ _ Zo),s4 _ _ kk3,V9⟩;have tk:∀ {H9:Hp}{bs rs ks:List Int},PF H hd lb lr lk st bs rs ks H9->aE H9 ll ls/\aE H9 lw ws/\bJ H9 b aa tr tm ps:=λ{H9 bs rs ks} f=>
   ⟨⟨f.kp _ _ QE hl.l,λa ha=>f.kp _ _ (hp.tup (hl.each a ha)) (hl.each a ha)⟩,⟨f.kp _ _ RZ hW.l,λa ha=>f.kp _ _ (hp.tup (hW.each a ha)) (hW.each a ha)⟩,hb.aS λc xs e=>f.kp c _ (hp.tup e) e⟩
  refine (zr rfl ⟨hd,zr rfl ⟨by decide,by decide,OR.pu,λd H5 d0 d1 g5=>⟨rfl,?_⟩⟩⟩);have VV:PF H hd lb lr lk st (List.replicate aa.length 0) (ls.map λa=>a.2.m) (ws.map λa=>a.2.m) H5:=⟨g5.2,λc u n e=>g5.1 _ _ n (OR.kp c u n e),g5.1 _ _ pn.bp OR.kb,g5.1 _ _ pn.rp OR.kr,g5.1 _ _ pn.kp OR.kk,g5.1 _ _ (OR.pu.tup OR.ks) OR.ks⟩;obtain ⟨er,her⟩:∃ er:Bool,decide (V.int d=V.int 1)=er:=⟨_,rfl⟩;rw [her];refine ⟨zx _,λa0 UZ=>?_⟩;have s6:=xT (o:=HO.lst []) UZ;have ka6:upd H5 a0 (HO.lst []) a0=some (.lst []):=xQ;have KW:=VV.same s6;have na0:a0≠hd/\a0≠lb/\a0≠lr/\a0≠lk:=⟨g5.2.ne UZ,(xV VV.kb UZ).symm,(xV VV.kr UZ).symm,(xV VV.kk UZ).symm⟩;generalize upd H5 a0 (HO.lst [])=H6 at s6 ka6 KW ⊢;have emp:∀ rs ks:List Int,rs.length=ls.length->ks.length=ws.length->(∀ y∈rs,(0:Int)<=y)->(∀ y∈ks,(0:Int)<=y)->eW (ls.map (·.2)) (ws.map (·.2)) rs ks [] rs ks:=λrs ks h1 h2 h3 h4=>⟨nofun,nofun,List.nodup_nil,by rw [zA];exact h1,by rw [zA];exact h2,h3,h4,λk _=>by show _=_ - (0:Int);omega,λk _=>by show _=_ - (0:Int);omega⟩;have Y9:∀ y∈ls.map (λa=>a.2.m),(0:Int)<=y/\y<=99:=λy hy=>by obtain ⟨a,ha,rfl⟩:=zX.mp hy;have:=lm a ha;omega
  have wm0:∀ y∈ws.map (λa=>a.2.m),(0:Int)<=y/\y<=99:=λy hy=>by obtain ⟨a,ha,rfl⟩:=zX.mp hy;have:=wm a ha;omega
  refine (zr rfl (zr rfl ?_));refine gn (fun σ H'=>∃ la ts JP pZ,σ=[some (.ref sa),some (.ref hd),some (.ref b),some (.ref ll),some (.ref lw),some (.int n),some (.ref st),some (.bl er),some (.ref la),none,none]/\PF H hd lb lr lk st (List.replicate aa.length 0) JP pZ H'/\oz H' la ts/\(la≠hd/\la≠lb/\la≠lr/\la≠lk)/\ts.length<=64/\eW (ls.map (·.2)) (ws.map (·.2)) (ls.map λa=>a.2.m) (ws.map λa=>a.2.m) (ts.map (·.2)) JP pZ/\(er=false->ts=[]/\JP=(ls.map λa=>a.2.m)/\pZ=(ws.map λa=>a.2.m))) ?_ (λc k=>?_) (λc=>⟨a0,[],lV rfl ⟨KW,⟨ka6,nofun⟩,na0,by show 0<=_;omega,emp _ _ (zA _) (zA _) (λy hy=>(Y9 y hy).1) (λy hy=>(wm0 y hy).1),λ_=>⟨rfl,rfl,rfl⟩⟩⟩)
  rotate_left
  ·obtain ⟨t1,t2,_⟩:=tk KW;refine (zr rfl (zr rfl (zr rfl (zr rfl ⟨hd,ll,lw,st,lb,lr,lk,ls,ws,lV rfl ⟨KW.pu,t1,t2,KW.ks,⟨KW.kr,KW.kk⟩,⟨pn.rk,pn.rp,pn.kp⟩,⟨⟨QE,xV hl.l LX,xV hl.l LY⟩,RZ,xV hW.l LX,xV hW.l LY⟩,⟨zA _,zA _,l8,w8⟩,Y9,λy hy=>(wm0 y hy).1,λla ts JP pZ H7 kp7 pu7 kr7 kk7 O4 kla kts OJ so=>?_⟩⟩))));exact k _ _ ⟨la,ts,JP,pZ,rfl,KW.str pn kp7 pu7 kr7 kk7,⟨kla,kts⟩,⟨NF pu7 kla,λz=>absurd O4 (by rw [z,KW.kb];simp),λz=>absurd O4 (by rw [z,KW.kr];simp),λz=>absurd O4 (by rw [z,KW.kk];simp)⟩,OJ,so,λe=>by rw [e] at c;cases c⟩
  rintro σ H7 ⟨la,ts,JP,pZ,rfl,RW,YI,⟨na1,na2,na3,na4⟩,OJ,so,noe⟩;refine ⟨zx _,λiC qx=>?_⟩;have s8:=xT (o:=HO.lst []) qx;have kw8:upd H7 iC (HO.lst []) iC=some (.lst []):=xQ;have YF:=RW.same s8;have on8:oz (upd H7 iC (HO.lst [])) la ts:=⟨s8 _ _ YI.l,λx hx=>s8 _ _ (YI.e x hx)⟩;have nw:iC≠hd/\iC≠lb/\iC≠lr/\iC≠lk/\iC≠la:=⟨RW.pu.ne qx,(xV RW.kb qx).symm,(xV RW.kr qx).symm,(xV RW.kk qx).symm,(xV YI.l qx).symm⟩;have flw:H iC=none:=by
   cases z:H iC with
   | none=>rfl
   | some u=>rw [RW.kp _ _ nw.1 z] at qx;cases qx
  generalize upd H7 iC (HO.lst [])=H8 at s8 kw8 YF on8 ⊢;obtain ⟨RY,RX,Ti,YL,nw5⟩:=nw;obtain ⟨_,_,UX⟩:=tk YF;have r0:gQ aa (ls.map (·.2)) (ws.map (·.2)) [] [] (List.replicate aa.length 0) JP pZ (List.replicate aa.length 0) JP pZ:=by
   have z:∀ w:Int,aP (List.replicate aa.length (0:Int)) w=0:=λw=>by unfold aP;rw [zZ,yi];split <;> rfl
   exact ⟨rfl,nofun,λ_=>rfl,yb ..,λw=>by rw [z];exact yp _,λw w0 w1=>by rw [z];exact Yu _ (qT (show w.toNat < aa.length by omega)),so.rl,so.kl,so.r0,so.k0,λk _=>by show _=_ - (0:Int);omega,λk _=>by show _=_ - (0:Int);omega⟩
  refine (zr rfl (bH UX.book rfl ⟨tm,zr rfl ⟨.inr (aX.of UX.meets),zr rfl ⟨by rw [zA];omega,by rw [zA];omega,?_⟩⟩⟩));rw [zA];refine (let W24:IV:=λi σ H9=>∃ xs Ml Ny kE,(∃ v10,σ=[some (.ref sa),some (.ref hd),some (.ref b),some (.ref ll),some (.ref lw),some (.int n),some (.ref st),some (.bl er),some (.ref la),some (.ref iC),v10])/\PF H hd lb lr lk st Ml Ny kE H9/\oz H9 la ts/\H9 iC=some (.lst (xs.map λx:RA=>V.ref x.a))/\(∀ x∈xs,RA.At H9 x/\(x.b≠hd/\x.b≠lb/\x.b≠lr/\x.b≠lk/\x.b≠iC)/\x.c≠hd/\x.c≠lb/\x.c≠lr/\x.c≠lk/\x.c≠iC)/\gQ aa (ls.map (·.2)) (ws.map (·.2)) ((ps.map (·.2)).take i) (xs.map (·.r)) (List.replicate aa.length 0) JP pZ Ml Ny kE;wq (lo:=0) (n:=ps.length) W24 ⟨[],_,_,_,⟨_,rfl⟩,YF,on8,kw8,nofun,r0⟩ ?_ ?_)
  ·rintro i σ H9 hi ⟨xs,Ml,Ny,kE,⟨v10,rfl⟩,pf,on,kw,ax,ro⟩;have ZZ:aB K H9 sa (List.map V.int ns):=aB.but Z1 h0 λc u m e=>pf.kp c u m (Yi _ _ e);have V6:xs.length=i:=by have:=ro.len;rw [zA,zR,zA] at this;omega
   refine (zr rfl ⟨.inl ⟨rfl,_,aB.of kw⟩,zr rfl (zr rfl (zr rfl (aG rfl rfl ⟨sa,ns,n + i,?_,ZZ,by omega,λpz eX Z3 pu gj=>?_⟩)))⟩)
   ·show [V.ref sa,V.int ((n:Int) + (0 + (i:Int)))]=_;rw [show ((n:Int) + (0 + (i:Int)))=((n + i:Nat):Int) by omega]
   have KY:=pf.same gj;obtain ⟨t1,t2,LL⟩:=tk KY;have O9:(ps.map λa=>V.ref a.1)[i]?=some (V.ref ps[i].1):=by simp [hi]
   have mi:=yC hi;obtain ⟨a1,a2,a3,_,_,a6,a7⟩:=gd.each ps[i].2 (zX.mpr ⟨_,mi,rfl⟩);have nz:∀ {c:Addr}{u:HO},H9 c=some u->c≠pz:=λe=>xV e Z3;refine (zr rfl (bH LL.book rfl (zr rfl (bH LL.book rfl (zr rfl (bH LL.meets (by rw [yB];exact wA O9) (zr rfl (zr rfl (zr rfl ?_)))))))));refine ⟨pz,tr,ps[i].1,ll,lw,st,lb,lr,lk,aa,ps[i].2,ls,ws,Ml,Ny,kE,rfl,pu,LL.aa,LL.rows _ mi,t1,t2,KY.ks,⟨KY.kb,KY.kr,KY.kk⟩,⟨pn.br,pn.bk,pn.rk,nz pf.kb,nz pf.kr,nz pf.kk⟩,⟨⟨nz (tk pf).1.l,xV hl.l flb,xV hl.l LX,xV hl.l LY⟩,nz (tk pf).2.1.l,xV hW.l flb,xV hW.l LX,xV hW.l LY⟩,⟨a1,a2,a3,a6,a7⟩,⟨ro.bl,Qo,by have:=ro.rl;rwa [zA] at this,by have:=ro.kl;rwa [zA] at this,l8,w8⟩,ro.r0,ro.k0,ro.b0,ro.br,?_⟩;rintro x bs3 rs3 OW fX Zs Qq ZC Zp Zu J5 ⟨xa,xb,xc⟩ rok;have Wd:∀ c u,c≠lb->c≠lr->c≠lk->H9 c=some u->fX c=some u:=λc u m1 m2 m3 e=>Zs c u (nz e) m1 m2 m3 (gj _ _ e);have Zh:=Wd _ _ RX Ti YL kw;have R9:∀ c u,c≠lb->c≠lr->c≠lk->c≠iC->H9 c=some u->upd fX iC (HO.lst (xs.map (λx:RA=>V.ref x.a)++[V.ref x.a])) c=some u:=λc u m1 m2 m3 m4 e=>by rw [xj m4];exact Wd c u m1 m2 m3 e
   have tl:∀ {c:Addr}{us vs:List V},H9 c=some (.tup us)->H9 iC=some (.lst vs)->c≠iC:=λe1 e2=>qe e1 e2 (by intro z;cases z);have Kc:∀ {c:Addr}{us:List V},H9 c=some (.tup us)->upd fX iC (HO.lst (xs.map (λx:RA=>V.ref x.a)++[V.ref x.a])) c=some (.tup us):=λ{c us} e=>R9 c _ (qe e pf.kb (by intro z;cases z)) (qe e pf.kr (by intro z;cases z)) (qe e pf.kk (by intro z;cases z)) (tl e kw) e;have nx:∀ {c d:Addr}{u:HO},H9 d=some u->eX c=none->c≠d:=λ{c d u} e f z=>by rw [z,gj _ _ e] at f;cases f
   have hdx:∃ u,H9 hd=some u:=by obtain ⟨a,b,c,e⟩:=pf.pu;exact ⟨_,e⟩
   obtain ⟨hu,JV⟩:=hdx;refine ⟨iC,aG rfl rfl ⟨Zh,by rw [zA];omega,xs++[x],bs3,rs3,OW,⟨_,rfl⟩,⟨?_,λc u m e=>?_,?_,?_,?_,Kc pf.ks⟩,⟨R9 _ _ na2 na3 na4 nw5.symm on.l,λy hy=>Kc (on.e y hy)⟩,by rw [xQ,zB];rfl,λy hy=>?_,?_⟩⟩
   ·obtain ⟨a,b,c,e⟩:=pf.pu;exact ⟨a,b,c,R9 _ _ pn.bp.symm pn.rp.symm pn.kp.symm RY.symm e⟩
   ·exact R9 c u (xV e flb) (xV e LX) (xV e LY) (xV e flw) (pf.kp c u m e)
   ·rw [xj RX.symm];exact ZC
   ·rw [xj Ti.symm];exact Zp
   ·rw [xj YL.symm];exact Zu
   ·rcases zV.mp hy with h | h
    ·obtain ⟨e,⟨b1,b2,b3,b4,b5⟩,c1,c2,c3,c4,c5⟩:=ax y h;exact ⟨⟨Kc e.a,R9 _ _ b2 b3 b4 b5 e.b,R9 _ _ c2 c3 c4 c5 e.c⟩,⟨b1,b2,b3,b4,b5⟩,c1,c2,c3,c4,c5⟩
    ·rw [zE.mp h];refine ⟨⟨?_,?_,?_⟩,⟨nx JV xb,nx pf.kb xb,nx pf.kr xb,nx pf.kk xb,nx kw xb⟩,nx JV xc,nx pf.kb xc,nx pf.kr xc,nx pf.kk xc,nx kw xc⟩
     ·rw [xj (nx kw xa)];exact J5.a
     ·rw [xj (nx kw xb)];exact J5.b
     ·rw [xj (nx kw xc)];exact J5.c
   ·rw [xv (qC (show ps[i]?=some ps[i] by simp [hi])),zB];exact ro.step rok
  ·rintro σ H9 ⟨xs,Ml,Ny,kE,⟨v10,rfl⟩,pf,on,kw,ax,ro⟩;rw [show (ps.map (·.2)).take ps.length=ps.map (·.2) from yY (by rw [zA];exact zJ _)] at ro;have V6:xs.length=ps.length:=by have:=ro.len;rwa [zA,zA] at this
   refine (zr rfl (zr rfl ?_));refine gn (fun σ H'=>∃ la ts OW,(∃ v10,σ=[some (.ref sa),some (.ref hd),some (.ref b),some (.ref ll),some (.ref lw),some (.int n),some (.ref st),some (.bl er),some (.ref la),some (.ref iC),v10])/\(aK H' hd/\(∀ c u,c≠hd->H c=some u->H' c=some u)/\H' lk=some (.lst (List.map V.int OW))/\H' st=some (.tup [.ref lb,.ref lr,.ref lk]))/\oz H' la ts/\ts.length<=64/\H' iC=some (.lst (xs.map λx:RA=>V.ref x.a))/\(∀ x∈xs,RA.At H' x)/\iT aa (ps.map (·.2)) (ls.map (·.2)) (ws.map (·.2)) (xs.map (·.r)) (ts.map (·.2)) OW/\(ts.map λx:Addr×T3=>[x.2.k,x.2.j]).Nodup) ?_ (λc k=>?_) (λc=>?_)
   ·rintro σ lI ⟨la,ts,OW,⟨v10,rfl⟩,⟨pu,kp,kk,V9⟩,on,OJ,kw,ax,pg,nd3⟩;refine (zr rfl (zr rfl ⟨by show 2<=_;omega,λp hpn=>?_⟩));have rR:=xT (o:=HO.tup [V.ref iC,V.ref la]) hpn;have T8:upd lI p (HO.tup [V.ref iC,V.ref la]) p=some (.tup [.ref iC,.ref la]):=xQ;have Td:aK (upd lI p (HO.tup [V.ref iC,V.ref la])) hd:=pu.new hpn;generalize upd lI p (HO.tup [V.ref iC,V.ref la])=JK at rR T8 Td ⊢;refine (zr rfl (bH (rR _ _ V9) rfl ⟨by show 2<=_;omega,λt ht=>?_⟩));have uD:=rR.trans (xT (o:=HO.tup [V.ref p,V.ref lk]) ht);refine q t p iC la xs ts lk OW _ ⟨λc u m e=>uD _ _ (kp c u m e),Td.new ht⟩ xQ ⟨xT ht _ _ T8,uD _ _ kw,uD _ _ on.l,λx hx=>(ax x hx).same uD,λx hx=>uD _ _ (on.e x hx)⟩ ⟨V6,Zg,by omega,by omega,by omega,λx hx=>by have:=ro.ok x.r (zX.mpr ⟨x,hx,rfl⟩);rwa [zA,zA] at this,λx hx=>by have:=pg.ones x.2 (zX.mpr ⟨x,hx,rfl⟩);rwa [zA,zA] at this⟩ nd3 (uD _ _ kk) pg
   ·have c:er=false:=by cases er;rfl;cases c
    obtain ⟨rfl,rfl,rfl⟩:=noe c;obtain ⟨t1,t2,_⟩:=tk pf;refine (zr rfl (zr rfl (zr rfl (zr rfl ⟨hd,ll,lw,st,lb,lr,lk,ls,ws,Ny,kE,rfl,pf.pu,t1,t2,pf.ks,⟨pf.kr,pf.kk⟩,⟨pn.rk,pn.rp,pn.kp⟩,⟨⟨QE,xV hl.l LX,xV hl.l LY⟩,RZ,xV hW.l LX,xV hW.l LY⟩,⟨by have:=ro.rl;rwa [zA] at this,by have:=ro.kl;rwa [zA] at this,l8,w8⟩,λy hy=>⟨ro.r0 y hy,?_⟩,ro.k0,λla2 ts2 rs3 OW eX Ji sL T5 QN aeY Zt Zi Ye VL=>k _ _ ⟨la2,ts2,OW,⟨_,rfl⟩,⟨sL,(pf.str pn Ji sL T5 QN).kp,QN,(pf.str pn Ji sL T5 QN).ks⟩,⟨Zt,Zi⟩,Ye,Ji _ _ RY Ti YL kw,λx hx=>?_,?_,?_⟩⟩))))
    ·obtain ⟨k1,Wu,rfl⟩:=jF hy;have Ub:k1 < ls.length:=by have:=ro.rl;rw [zA] at this;omega
     have e1:=ro.re k1 (by rw [zA];exact Ub);have e2:=(Y9 _ (qT (show k1 < (ls.map λa=>a.2.m).length by rw [zA];exact Ub))).2;have e3:0<=((xs.map (·.r)).map λx=>aH x.bg k1).sum:=vK λz hz=>by
      obtain ⟨x,hx,rfl⟩:=zX.mp hz;have ok:=ro.ok x hx;exact ok.b0 _ (qT (show k1 < x.bg.length by rw [ok.bl,zA];exact Ub))
     omega
    ·obtain ⟨e,⟨b1,b2,b3,b4,b5⟩,c1,c2,c3,c4,c5⟩:=ax x hx;exact ⟨Ji _ _ (pf.pu.tup e.a) (qe e.a pf.kr (by intro z;cases z)) (qe e.a pf.kk (by intro z;cases z)) e.a,Ji _ _ b1 b3 b4 e.b,Ji _ _ c1 c3 c4 e.c⟩
    ·rw [<-fq,<- fq] at ro;exact Jw ro VL
    ·have:=VL.nd;rwa [zz] at this
   ·refine ⟨la,ts,kE,⟨_,rfl⟩,⟨pf.pu,pf.kp,pf.kk,pf.ks⟩,on,OJ,kw,λx hx=>(ax x hx).1,?_,by have:=so.nd;rwa [zz] at this⟩;rw [<-fq,<- fq] at so;exact tN so ro
theorem D1:aF ["_law_thing", "_law_most"] ["_law_thing", "_law_most"] (aj qg):=L2.bw
theorem Gk (T:Tx K mg a):aW P w K mg base dQ 2 a.AL a.BE ["_law_thing", "_law_most"] (Nl):=by
 have Cv:=Da P w base T;refine T.Bg.ok D1 (λvs H Q E h=>?_) (λbO A outer s H vs Q E hr h=>?_)
 ·obtain ⟨_,_,_,rfl,_⟩:=h;rfl
 ·have nd:=D1.nd;have hu:=hr.units;obtain ⟨v,lm,ms,rfl,km,dt,aeh,q⟩:=h;refine bP ?_;intro Y
  let B0:Bk Y ((af qg).drop 1):=⟨_,(xU (xu (xq (xf (qp rfl rfl) (by rfl) T.iP yO (xP (xR (wc (own:=["_law_one", "_law_limit"]) (caps:=[]) rfl (show aD ["_law_one", "_law_limit"] [] ["_law_thing", "_law_most"] (aj qg) _ from L2.b8) (iu rfl rfl T.kY (xP (xR (pv 0) (xR (pv 1) xW rfl) rfl))) (λ_ _ _ _=>(wE (n:=2) rfl rfl (xY (xX (i:=0) (show List.Nodup (["_law_one", "_law_limit"]:List Str) from by decide +kernel) rfl rfl) (xY (xX (i:=1) (show List.Nodup (["_law_one", "_law_limit"]:List Str) from by decide +kernel) rfl rfl) wD)))) (λ_ _ _ _=>wP) (λ_ _ _ _=>(qj (xZ Cv (hr.mono (by decide)) rfl T.DA T.DD T.DG .nil aq (xP (xR (pv 0) xW rfl))) (qo (pM cR cR xS (pv 0) (pv 1)))))) xW rfl))))))⟩
  refine ⟨_,(xU (xl (xx (@PW.pt _ _ _ (qM (wN (wQ (xf (wL) (by rfl) T.aI zh (xP (xR (pv 0) (xR (qI (v:=V.ty "list") rfl T.cK yD rfl) xW rfl) rfl))))) (wx (xp gu (xf (xg rfl) (by rfl) T.aJ PySem.boot_len (xP (xR (pv 0) xW rfl))) (xf (xg rfl) (by rfl) T.aJ PySem.boot_len (xP (xR (pv 1) xW rfl))) (av _))))) (xU (xu (xq qL))) xr) B0.bl)),?_⟩;have line:=bf;rcases dt.way with ⟨l,xs,rfl,kl,e1,_,ex⟩ | ⟨l,xs,rfl,kl,e1,_,ex⟩ | ⟨t,ht,n1,_,e1,_⟩
  ·have cv:iD H ms (.ref l)=(decide (xs.length=ms.length) && (xs.zip ms).all λp=>mD 0 p.2 p.1):=by simp only [iD,e1]
   refine (zr rfl ⟨_, "list", "list", rfl,wt kl,.inr (.inr (.inl rfl)),zr rfl (aA rfl (zr rfl ⟨l,zr rfl ⟨.inl (aB.of kl),zr rfl ⟨lm,zr rfl ⟨.inl (aB.of km),rfl,zr rfl ?_⟩⟩⟩⟩))⟩);by_cases e:xs.length=ms.length
   rotate_left
   ·refine ak ?_ ?_
    ·rw [zA];simp;omega
    have z:=q _ (ay.refl _);rwa [cv,decide_eq_false e,yR] at z
   refine aA (by rw [zA];simp;omega) ?_;refine (zr rfl (zr rfl ⟨l,lm,rfl,⟨_,aB.of kl⟩,⟨_,aB.of km⟩,?_⟩));refine jb (K:=K) (a:=l) (b:=lm) (xs:=xs) (ys:=ms.map V.int) (by rw [zA,e]) (λi τ acc H5=>(∃ t0 t1,τ=[t0,t1])/\acc=(((xs.zip ms).take i).map λp=>mD 0 p.2 p.1).map V.bl/\ay H H5) ⟨⟨_,_,rfl⟩,rfl,ay.refl _⟩ (by omega) ?_ ?_ ?_
   ·rintro i τ acc H5 ⟨_,rfl,sm⟩;refine ⟨?_,aB.of (sm _ _ kl),aB.of (sm _ _ km)⟩;rw [zA,zA,zR];omega
   ·rintro i v y z τ acc H5 C hv hy hz ⟨⟨t0,t1,rfl⟩,rfl,sm⟩ hC;obtain ⟨m,hm,rfl⟩:=wF hy;obtain ⟨ty,MH⟩:=ex v (zC hv);have s5:=sm.trans (xT (o:=HO.tup [v,V.int m]) hz);have fin:∀ bb,bb=mD 0 m v->C [some v,some (.int m)] ((((xs.zip ms).take i).map λp=>mD 0 p.2 p.1).map V.bl++[V.bl bb]) (upd H5 z (HO.tup [v,V.int m])):=λbb e=>hC _ _ _ ⟨⟨_,_,rfl⟩,by rw [xv (cW hv hm),zB,zB,e];rfl,s5⟩;refine (JN xQ (zr rfl ⟨v,ty,rfl,qB s5 MH,zr rfl ?_⟩));by_cases ei:ty = "int"
    ·subst ei;obtain ⟨x,rfl⟩:=jx MH;refine ak rfl (zr rfl (aG rfl rfl (zr rfl ?_)));by_cases h1:(0:Int)<=x
     ·refine ak (decide_eq_true h1) (zr rfl (aG rfl rfl (fin _ ?_)));show decide (x<=m)=(decide ((0:Int)<=x) && decide (x<=m));rw [decide_eq_true h1,zu]
     ·refine aA (decide_eq_false h1) (fin _ ?_);show false=(decide ((0:Int)<=x) && decide (x<=m));rw [decide_eq_false h1,yR]
    ·exact aA (by simpa using ei) (fin _ (by rw [Ls MH ei]))
   ·rintro τ acc H5 ⟨⟨t0,t1,rfl⟩,rfl,sm⟩ lc kJ;refine ⟨lc,zr rfl ⟨aB.of xQ,?_⟩⟩;have e3:xs.length=(xs.zip ms).length:=by rw [List.length_zip,e];exact (Nat.min_self _).symm
    have z:=q _ (sm.trans (xT (o:=HO.lst ((((xs.zip ms).take xs.length).map λp=>mD 0 p.2 p.1).map V.bl)) kJ));rw [cv,decide_eq_true e,zu] at z;rw [e3,zd,ym] at *;exact z
  ·refine (zr rfl ⟨_, "tuple", "list", rfl,wz kl,.inr (.inr (.inl rfl)),zr rfl (ak rfl ?_)⟩);have z:=q _ (ay.refl _);rwa [show iD H ms (.ref l)=false by simp only [iD,e1]] at z
  ·refine (zr rfl ⟨_,t, "list", rfl,ht,.inr (.inr (.inl rfl)),zr rfl (ak (by rw [n1];rfl) ?_)⟩);have z:=q _ (ay.refl _);rwa [show iD H ms v=false by simp only [iD,e1]] at z
theorem Gg:aF ["_law_walker", "_law_sacks_here", "_law_counted"] ["_law_walker", "_law_sacks_here", "_law_counted"] (aj Eg):=L2.bw
theorem Io (T:Tx K mg a):aW P w K mg base dQ 1 a.Cq a.CZ ["_law_walker", "_law_sacks_here", "_law_counted"] (P4):=by
 refine T.CL.ok Gg (λvs H Q E h=>?_) (λbO A outer s H vs Q E hr h=>?_)
 ·obtain ⟨_,_,_,_,_,rfl,_⟩:=h;rfl
 ·have nd:=Gg.nd;have hu:=hr.units;obtain ⟨l,n,ps,ns,w0,rfl,hl,hn,ln,bD,q⟩:=h;refine ⟨_,(xU (xu (xq (xf (cJ rfl) (by rfl) T.kZ yd (xP (xR (wc (own:=["_law_k"]) (caps:=[2,0,1]) rfl (show aD ["_law_k"] [2,0,1] ["_law_walker", "_law_sacks_here", "_law_counted"] (aj Eg) _ from L2.b8) (wV rfl T.aU (xP (xR (xf (xg rfl) (by rfl) T.aJ PySem.boot_len (xP (xR (pv 2) xW rfl))) xW rfl))) (λ_ _ _ _=>(xX (i:=0) (show List.Nodup (["_law_k", "_law_counted", "_law_walker", "_law_sacks_here"]:List Str) from by decide +kernel) rfl rfl)) (λ_ _ _ _=>nG (xp qA (xi (xo rfl) (xi (xh rfl) (pv 3) (pv 0) (λ_ _=>rfl)) xS (λ_ _=>rfl)) (pv 2) (av _))) (λ_ _ _ _=>(xi (xh rfl) (pv 1) (pv 0) (λ_ _=>rfl)))) xW rfl)))))),?_⟩;have line:=bf;refine (zr rfl ⟨n,zr rfl ⟨.inl (aB.of hn),zr rfl ⟨by rw [zA];omega,by rw [zA];omega,?_⟩⟩⟩);rw [zA];refine (let W25:IC:=λi τ acc H5=>(∃ t0,τ=[t0,some (.ref n),some (.int w0),some (.ref l)])/\acc=(((((ps.map (·.2)).zip ns).take i).filter λp=>decide (p.1.w=w0)).map (·.2)).map V.int/\ay H H5;fE (lo:=0) (m:=ns.length) W25 ⟨⟨_,rfl⟩,rfl,ay.refl _⟩ (by omega) ?_ ?_ ?_)
  ·rintro i τ acc H5 ⟨_,rfl,sm⟩;rw [zA,zA];exact yG (List.length_filter_le _ _) (by rw [zR];omega)
  ·rintro i τ acc H5 C hi ⟨⟨t0,rfl⟩,rfl,sm⟩ hC;obtain ⟨r,Q6⟩:∃ r,ps[i]?=some r:=⟨_,zF (by omega)⟩;obtain ⟨x,hx⟩:∃ x,ns[i]?=some x:=⟨_,zF hi⟩;have mr:=zC Q6;have sn:=pT (w:=w0) (qC Q6) hx;have a1:bQ (ps.map λa=>V.ref a.1) (0 + (i:Int))=some (V.ref r.1):=by rw [yB];exact wA (by rw [zD,Q6];rfl)
   have a2:bQ (ns.map V.int) (0 + (i:Int))=some (V.int x):=by rw [yB];exact wA (by rw [zD,hx];rfl)
   refine (zr rfl (zr rfl (bL (sm _ _ hl.l) a1 (bH (sm _ _ (hl.each r mr)) rfl (zr rfl ⟨rfl,zr rfl ?_⟩)))));by_cases e:r.2.w=w0
   ·refine ak (decide_eq_true (congrArg V.int e)) (zr rfl (zr rfl (bL (sm _ _ hn) a2 (hC _ _ _ ⟨⟨_,rfl⟩,?_,sm⟩))));rw [sn,if_pos e,zB];rfl
   ·refine aA (decide_eq_false λz=>e (V.int.inj z)) (hC _ _ _ ⟨⟨_,rfl⟩,?_,sm⟩);rw [sn,if_neg e,zO]
  ·rintro τ acc H5 ⟨⟨t0,rfl⟩,rfl,sm⟩ lc kJ;have e:ns.length=((ps.map (·.2)).zip ns).length:=by rw [List.length_zip,zA];omega
   rw [e,zd];exact ⟨lc,zr rfl ⟨aB.of xQ,q _ (sm.trans (xT kJ))⟩⟩
theorem Do:aF ["_law_rooms_here", "_law_meeting", "_law_loads", "_law_wants", "_law_row_here", "_law_state", "_law_one", "_law_other", "_law_when", "_law_many", "_law_bags", "_law_rests", "_law_lacks", "_law_there", "_law_back", "_law_begun", "_law_come", "_law_may", "_law_out", "_law_in", "_law_k", "_law_walker"] ["_law_rooms_here", "_law_meeting", "_law_loads", "_law_wants", "_law_row_here", "_law_state"] (aj xt):=L2.bw
theorem Fh (T:Tx K mg a):aW P w K mg base dQ 3 a.Au a.AU ["_law_rooms_here", "_law_meeting", "_law_loads", "_law_wants", "_law_row_here", "_law_state"] (Ng):=by
 have Dj:=Gk P w base T;have Ek:=Io P w base T;refine T.AF.ok Do (λvs H Q E h=>?_) (λbO A outer s H vs Q E hr h=>?_)
 ·obtain ⟨_,_,_,_,_,_,_,_,_,_,_,_,_,_,_,_,_,rfl,_⟩:=h;rfl
 ·have nd:=Do.nd;have hu:=hr.units;obtain ⟨tr,m,ll,lw,v,st,lb,lr,lk,aa,r,ls,ws,bs,rs,ks,H0,rfl,co,Wj,hm,⟨a1,a2,a3⟩,nF,TR,Jd,Lk,hl,hw,bD,bX,dt,q0,q1⟩:=h;refine bP ?_;intro Y
  let B0:Bk Y ((af xt).drop 14):=⟨_,(xU (xu (xq (xf (qp rfl rfl) (by rfl) T.iP yO (xP (xR (wc (own:=["_law_k"]) (caps:=[10,0]) rfl (show aD ["_law_k"] [10,0] ["_law_rooms_here", "_law_meeting", "_law_loads", "_law_wants", "_law_row_here", "_law_state", "_law_one", "_law_other", "_law_when", "_law_many", "_law_bags", "_law_rests", "_law_lacks", "_law_there", "_law_back", "_law_begun", "_law_come", "_law_may", "_law_out", "_law_in", "_law_k", "_law_walker"] (aj xt) _ from L2.b8) (wV rfl T.aU (xP (xR (xf (xg rfl) (by rfl) T.aJ PySem.boot_len (xP (xR (pv 10) xW rfl))) xW rfl))) (λ_ _ _ _=>(xX (i:=0) (show List.Nodup (["_law_k", "_law_bags", "_law_rooms_here"]:List Str) from by decide +kernel) rfl rfl)) (λ_ _ _ _=>wP) (λ_ _ _ _=>(wf cR (xi (xh rfl) (pv 1) (pv 0) (λ_ _=>rfl)) (xi (xo rfl) (pv 2) (pv 0) (λ_ _=>rfl)) (av _)))) xW rfl))))))⟩
  let B1:Bk Y ((af xt).drop 13):=⟨_,(xU (xl (qP PassesOwn.never rfl (wV rfl T.aU (xP (xR (xf (xg rfl) (by rfl) T.aJ PySem.boot_len (xP (xR (pv 3) xW rfl))) xW rfl))) (xX (i:=20) nd rfl rfl) (xU (xu (wG (xm wW (xi (xh rfl) (pv 12) (pv 20) (λ_ _=>rfl)) (xi (xh rfl) (pv 16) (pv 20) (λ_ _=>rfl))) (wy (pv 12) (pv 20) wJ))))) B0.bl))⟩
  let B2:Bk Y ((af xt).drop 12):=⟨_,(xU (xl (qP PassesOwn.never rfl (wV rfl T.aU (xP (xR (xf (xg rfl) (by rfl) T.aJ PySem.boot_len (xP (xR (pv 2) xW rfl))) xW rfl))) (xX (i:=20) nd rfl rfl) (xU (xu (wG (xm wW (xi (xh rfl) (pv 11) (pv 20) (λ_ _=>rfl)) (xi (xh rfl) (pv 15) (pv 20) (λ_ _=>rfl))) (wy (pv 11) (pv 20) wJ))))) B1.bl))⟩
  let B3:Bk Y ((nb (af xt) 11).drop 2):=⟨_,(xU (xu (wG (xm wR (xm wW (xi (xh rfl) (pv 10) (pv 21) (λ_ _=>rfl)) (xi (xh rfl) (pv 18) (pv 20) (λ_ _=>rfl))) (xi (xh rfl) (pv 19) (pv 20) (λ_ _=>rfl))) (wy (pv 10) (pv 21) wJ))))⟩
  let B4:Bk Y ((nb (af xt) 11).drop 1):=⟨_,(xU (xl (xx (@PW.pt _ _ _ (qM (wN (ir cR cR xS (xi (xh rfl) (pv 18) (pv 20) (λ_ _=>rfl)) (xi (xh rfl) (pv 10) (pv 21) (λ_ _=>rfl)))) (wx (xp cu (xi (xh rfl) (pv 19) (pv 20) (λ_ _=>rfl)) xS (av _))))) (xU (xu (xq qL))) xr) B3.bl))⟩
  let B5:Bk Y ((af xt).drop 11):=⟨_,(xU (xl (qP PassesOwn.never rfl (wV rfl T.aU (xP (xR xS xW rfl))) (xX (i:=20) nd rfl rfl) (xU (xl (xk (i:=21) nd rfl rfl (xi (xo rfl) (pv 1) (pv 20) (λ_ _=>rfl))) B4.bl))) B2.bl))⟩
  let B6:Bk Y ((af xt).drop 10):=⟨_,(xU (xl (xk (i:=19) nd rfl rfl (xw (xP (xR (xm wW (pv 14) (xZ Ek (hr.mono (by decide)) rfl T.Eh T.Ei T.Ej .nil aq (xP (xR (pv 6) (xR (pv 3) (xR (pv 16) xW rfl) rfl) rfl)))) (xR (xm wW (pv 13) (xZ Ek (hr.mono (by decide)) rfl T.Eh T.Ei T.Ej .nil aq (xP (xR (pv 7) (xR (pv 3) (xR (pv 16) xW rfl) rfl) rfl)))) xW rfl) rfl)))) B5.bl))⟩
  let B7:Bk Y ((af xt).drop 9):=⟨_,(xU (xl (xk (i:=18) nd rfl rfl (xw (xP (xR (xm wW (pv 13) (xZ Ek (hr.mono (by decide)) rfl T.Eh T.Ei T.Ej .nil aq (xP (xR (pv 6) (xR (pv 2) (xR (pv 15) xW rfl) rfl) rfl)))) (xR (xm wW (pv 14) (xZ Ek (hr.mono (by decide)) rfl T.Eh T.Ei T.Ej .nil aq (xP (xR (pv 7) (xR (pv 2) (xR (pv 15) xW rfl) rfl) rfl)))) xW rfl) rfl)))) B6.bl))⟩
  let B8:Bk Y ((af xt).drop 8):=⟨_,(xU (xl (xx (wN (wQ (xZ Dj (hr.mono (by decide)) rfl T.Dc T.Dd T.De .nil aq (xP (xR (pv 16) (xR (pv 17) xW rfl) rfl))))) (xU (xu (xq qL))) xr) B7.bl))⟩
  let B9:Bk Y ((af xt).drop 7):=⟨_,(xU (xl (cG (ix:=17) nd rfl rfl (own:=["_law_want"]) (caps:=[8,6,7]) rfl (show aD ["_law_want"] [8,6,7] ["_law_rooms_here", "_law_meeting", "_law_loads", "_law_wants", "_law_row_here", "_law_state", "_law_one", "_law_other", "_law_when", "_law_many", "_law_bags", "_law_rests", "_law_lacks", "_law_there", "_law_back", "_law_begun", "_law_come", "_law_may", "_law_out", "_law_in", "_law_k", "_law_walker"] (aj xt) _ from L2.b8) (wZ rfl (pv 3)) (λ_ _ _ _=>(xX (i:=0) (show List.Nodup (["_law_want", "_law_when", "_law_one", "_law_other"]:List Str) from by decide +kernel) rfl rfl)) (λ_ _ _ _=>wP) (λ_ _ _ _=>(xm cH xS (wK (dF) (by rfl) T.jq yS (xP (xR (qj (wf (dI rfl) (xi (xo rfl) (pv 0) xS (λ_ _=>rfl)) (wS (xP (xR (pv 2) (xR (pv 3) xW rfl) rfl))) rfl) (qo (wf pQ (xi (xo rfl) (pv 0) xS (λ_ _=>rfl)) (pv 1) (av _)))) xW rfl)))))) B8.bl))⟩
  let OA:Bk Y ((af xt).drop 6):=⟨_,(xU (xl (xx (wN (wQ (xZ Dj (hr.mono (by decide)) rfl T.Dc T.Dd T.De .nil aq (xP (xR (pv 15) (xR (pv 17) xW rfl) rfl))))) (xU (xu (xq qL))) xr) B9.bl))⟩
  let RM:Bk Y ((af xt).drop 5):=⟨_,(xU (xl (cG (ix:=17) nd rfl rfl (own:=["_law_load"]) (caps:=[8,6,7]) rfl (show aD ["_law_load"] [8,6,7] ["_law_rooms_here", "_law_meeting", "_law_loads", "_law_wants", "_law_row_here", "_law_state", "_law_one", "_law_other", "_law_when", "_law_many", "_law_bags", "_law_rests", "_law_lacks", "_law_there", "_law_back", "_law_begun", "_law_come", "_law_may", "_law_out", "_law_in", "_law_k", "_law_walker"] (aj xt) _ from L2.b8) (wZ rfl (pv 2)) (λ_ _ _ _=>(xX (i:=0) (show List.Nodup (["_law_load", "_law_when", "_law_one", "_law_other"]:List Str) from by decide +kernel) rfl rfl)) (λ_ _ _ _=>wP) (λ_ _ _ _=>(xm cH xS (wK (dF) (by rfl) T.jq yS (xP (xR (qj (wf (dI rfl) (xi (xo rfl) (pv 0) xS (λ_ _=>rfl)) (wS (xP (xR (pv 2) (xR (pv 3) xW rfl) rfl))) rfl) (qo (wf cu (xi (xo rfl) (pv 0) xS (λ_ _=>rfl)) (pv 1) (av _)))) xW rfl)))))) OA.bl))⟩
  let VB:Bk Y ((af xt).drop 4):=⟨_,(xU (xl (xx (@PW.pt _ _ _ (qM (wN (wQ (xZ Dj (hr.mono (by decide)) rfl T.Dc T.Dd T.De .nil aq (xP (xR (xw (xP (xR (pv 13) (xR (pv 14) xW rfl) rfl))) (xR (xw (xP (xR (pv 9) (xR (pv 9) xW rfl) rfl))) xW rfl) rfl))))) (wx (xp fG (xm wR (pv 13) (pv 14)) (pv 9) (av _))))) (xU (xu (xq qL))) xr) RM.bl))⟩
  let VA:Bk Y ((af xt).drop 3):=⟨_,(xU (xl (wG (pv 4) (wE (n:=4) rfl rfl (xY (xX (i:=13) nd rfl rfl) (xY (xX (i:=14) nd rfl rfl) (xY (xX (i:=15) nd rfl rfl) (xY (xX (i:=16) nd rfl rfl) wD)))))) VB.bl))⟩
  let Vz:Bk Y ((af xt).drop 2):=⟨_,(xU (xl (xx (@PW.pt _ _ _ (qM (wN (wQ (xf (wL) (by rfl) T.aI zh (xP (xR (pv 4) (xR (qI (v:=V.ty "tuple") rfl T.bI zy rfl) xW rfl) rfl))))) (wx (xp gu (xf (xg rfl) (by rfl) T.aJ PySem.boot_len (xP (xR (pv 4) xW rfl))) xS (av _))))) (xU (xu (xq qL))) xr) VA.bl))⟩
  refine ⟨_,(xU (xl (wG (pv 1) (wE (n:=4) rfl rfl (xY (xX (i:=6) nd rfl rfl) (xY (xX (i:=7) nd rfl rfl) (xY (xX (i:=8) nd rfl rfl) (xY (xX (i:=9) nd rfl rfl) wD)))))) (xl (wG (pv 5) (wE (n:=3) rfl rfl (xY (xX (i:=10) nd rfl rfl) (xY (xX (i:=11) nd rfl rfl) (xY (xX (i:=12) nd rfl rfl) wD))))) Vz.bl))),?_⟩;have line:=bf
  first | refine cU _ (by simp only [L2.start,zI,zg,zH,zL,zj,zk,zp,zn,List.replicate,zP,zb,zO,zM,zN];exact rfl) ?_ | refine fk _ (by simp only [L2.start,zI,zg,zH,zL,zj,zk,zp,zn,List.replicate,zP,zb,zO,zM,zN];exact rfl) ?_ | skip
  refine (zr rfl (RT (co.s _ _ hm) ?_))
  first | refine cU _ (by simp only [L2.start,zI,zg,zH,zL,zj,zk,zp,zn,List.replicate,zP,zb,zO,zM,zN];exact rfl) ?_ | refine fk _ (by simp only [L2.start,zI,zg,zH,zL,zj,zk,zp,zn,List.replicate,zP,zb,zO,zM,zN];exact rfl) ?_ | skip
  refine (zr rfl (MW co.st ?_));have V1:(∀ x:RA,v=.ref x.a->RA.At H0 x->False)->∀ H',ay H0 H'->Q (.bl false) H':=λf=>q0 λx e hx=>(f x e hx).elim;rcases dt.way with ⟨l,xs,rfl,kl,_,e1,ex⟩ | ⟨l,xs,rfl,kl,_,e1,ex⟩ | ⟨t,ht,_,n1,_,e1⟩
  ·refine (zr rfl ⟨_, "list", "tuple", rfl,wt (co.s _ _ kl),.inr (.inr (.inr rfl)),zr rfl (ak rfl (V1 (λx e hx=>?_) _ co.s))⟩);cases e;rw [hx.a] at kl;cases kl
  rotate_left
  ·refine (zr rfl ⟨_,t, "tuple", rfl,qB co.s ht,.inr (.inr (.inr rfl)),zr rfl (ak (by rw [n1];rfl) (V1 (λx e hx=>?_) _ co.s))⟩);rw [e,wz hx.a] at ht;cases ht;cases n1
  first | refine cU _ (by simp only [L2.start,zI,zg,zH,zL,zj,zk,zp,zn,List.replicate,zP,zb,zO,zM,zN];exact rfl) ?_ | refine fk _ (by simp only [L2.start,zI,zg,zH,zL,zj,zk,zp,zn,List.replicate,zP,zb,zO,zM,zN];exact rfl) ?_ | skip
  refine (zr rfl ⟨_, "tuple", "tuple", rfl,wz (co.s _ _ kl),.inr (.inr (.inr rfl)),zr rfl (aA rfl (zr rfl ⟨l,zr rfl ⟨.inr (aX.of (co.s _ _ kl)),rfl,zr rfl ?_⟩⟩))⟩);by_cases e4:xs.length=4
  rotate_left
  ·refine ak ?_ (V1 (λx e hx=>?_) _ co.s)
   ·simp;omega
   ·cases e;rw [hx.a] at kl;cases kl;exact e4 rfl
  obtain ⟨x,y,z,w0,rfl⟩:=LS e4;obtain ⟨tx,hx⟩:=(ex x (by simp)).ty;obtain ⟨ty,hy⟩:=(ex y (by simp)).ty;have dz:=ex z (by simp);have dw:=ex w0 (by simp);have vx:∀ a:RA,V.ref l=.ref a.a->RA.At H0 a->x=.int a.r.th/\y=.int a.r.bk/\z=.ref a.b/\w0=.ref a.c:=λa e ha=>by
   cases e;have z:=ha.a;rw [kl] at z;cases z;exact ⟨rfl,rfl,rfl,rfl⟩
  refine aA rfl (zr rfl (RT (co.s _ _ kl) ?_))
  first | refine cU _ (by simp only [L2.start,zI,zg,zH,zL,zj,zk,zp,zn,List.replicate,zP,zb,zO,zM,zN];exact rfl) ?_ | refine fk _ (by simp only [L2.start,zI,zg,zH,zL,zj,zk,zp,zn,List.replicate,zP,zb,zO,zM,zN];exact rfl) ?_ | skip
  refine (zr rfl (zr rfl ⟨by show 2<=sizeLine;omega,λl1 h1=>?_⟩));have c1:=co.same (xT (o:=HO.lst [x,y]) h1);have k1:upd H l1 (HO.lst [x,y]) l1=some (.lst [x,y]):=xQ;generalize upd H l1 (HO.lst [x,y])=H1 at c1 k1 ⊢
  first | refine cU _ (by simp only [L2.start,zI,zg,zH,zL,zj,zk,zp,zn,List.replicate,zP,zb,zO,zM,zN];exact rfl) ?_ | refine fk _ (by simp only [L2.start,zI,zg,zH,zL,zj,zk,zp,zn,List.replicate,zP,zb,zO,zM,zN];exact rfl) ?_ | skip
  refine (zr rfl (zr rfl ⟨by show 2<=sizeLine;omega,λl2 h2=>?_⟩));have s2:=xT (o:=HO.lst [V.int r.m,V.int r.m]) h2;have c2:=c1.same s2;have k2:upd H1 l2 (HO.lst [V.int r.m,V.int r.m]) l2=some (.lst [V.int r.m,V.int r.m]):=xQ;have k1:=s2 _ _ k1;generalize upd H1 l2 (HO.lst [V.int r.m,V.int r.m])=H2 at c2 k1 k2 ⊢;refine ⟨.ref l1,l2,[r.m,r.m],rfl,k2,.inl ⟨l1,zr rfl ⟨k1,λu hu=>?_⟩⟩,by show 2<=900;decide,λH3 s3=>(zr rfl ?_)⟩
  ·simp only [zG,zK,or_false] at hu;rcases hu with rfl | rfl
   ·exact ⟨tx,qB c2.s hx⟩
   ·exact ⟨ty,qB c2.s hy⟩
  have c3:=c2.same s3;cases lv:iD H2 [r.m,r.m] (.ref l1) with
  | false=>
   refine ak rfl (ak rfl (q0 (λa e ha=>?_) _ c3.s));obtain ⟨rfl,rfl,rfl,rfl⟩:=vx a e ha;rw [f9 (ns:=[a.r.th,a.r.bk]) k1] at lv;unfold dX;rw [lv];rfl
  | true=>
  obtain ⟨_,ns,ep,kn,okn⟩:=i8 lv;cases ep;rw [k1] at kn;obtain ⟨th,bk,rfl,rfl⟩:∃ th bk:Int,x=.int th/\y=.int bk:=by
   rcases ns with _ | ⟨th,_ | ⟨bk,_ | ⟨c,ns⟩⟩⟩ <;> cases kn;exact (lV rfl rfl)
  have ens:ns=[th,bk]:=by
   rcases ns with _ | ⟨th,_ | ⟨bk,_ | ⟨c,ns⟩⟩⟩ <;> cases kn;rfl
  subst ens;refine aA rfl (zr rfl (zr rfl (aG rfl rfl (zr rfl (aG rfl rfl (zr rfl ?_))))));by_cases tb:th + bk<=r.m
  rotate_left
  ·refine ak (decide_eq_true (by omega)) (q0 (λa e ha=>?_) _ c3.s);obtain ⟨g1,g2,rfl,rfl⟩:=vx a e ha;have tb:¬ a.r.th + a.r.bk<=r.m:=by rw [<-V.int.inj g1,<- V.int.inj g2];exact tb
   unfold dX;rw [decide_eq_false tb,yU];rfl
  refine aA (decide_eq_false (by omega)) ?_
  first | refine cU _ (by simp only [L2.start,zI,zg,zH,zL,zj,zk,zp,zn,List.replicate,zP,zb,zO,zM,zN];exact rfl) ?_ | refine fk _ (by simp only [L2.start,zI,zg,zH,zL,zj,zk,zp,zn,List.replicate,zP,zb,zO,zM,zN];exact rfl) ?_ | skip
  refine (zr rfl ⟨ll,rfl,⟨_,aB.of (c3.s _ _ hl.l)⟩,?_⟩);refine (let W26:IC:=λi τ acc H5=>(∃ t0,τ=[t0,some (.int r.t),some (.int r.lo),some (.int r.hi)])/\acc=(((ls.map (·.2)).take i).map λs=>if (decide (s.w=r.lo) || decide (s.w=r.hi)) && !decide (s.t ≥ r.t) then (99:Int) else 0).map V.int/\ay H3 H5;wT (K:=K) (a:=ll) (xs:=ls.map λa=>V.ref a.1) W26 ⟨⟨_,rfl⟩,rfl,ay.refl _⟩ (by rw [zA];omega) ?_ ?_ ?_)
  ·rintro i τ acc H5 ⟨_,rfl,sm⟩;refine ⟨?_,aB.of (sm _ _ (c3.s _ _ hl.l))⟩;rw [zA,zA,zR];omega
  ·rintro i v0 τ acc H5 C hv ⟨⟨t0,rfl⟩,rfl,sm⟩ hC;obtain ⟨q2,hq,rfl⟩:=wF hv;have kq:=sm _ _ (c3.s _ _ (hl.each q2 (zC hq)));have st:=xv (qC hq);refine (zr rfl (bH kq rfl (zr rfl (zr rfl ⟨by show 2<=sizeLine;omega,λu hu=>?_⟩))));have su:=xT (o:=HO.tup [V.int r.lo,V.int r.hi]) hu;have fin:∀ x:Int,x=(if (decide (q2.2.w=r.lo) || decide (q2.2.w=r.hi)) && !decide (q2.2.t ≥ r.t) then 99 else 0)->C [some (.ref q2.1),some (.int r.t),some (.int r.lo),some (.int r.hi)] ((((ls.map (·.2)).take i).map λs=>if (decide (s.w=r.lo) || decide (s.w=r.hi)) && !decide (s.t ≥ r.t) then (99:Int) else 0).map V.int++[V.int x]) (upd H5 u (HO.tup [V.int r.lo,V.int r.hi])):=λx e=>hC _ _ _ ⟨⟨_,rfl⟩,by rw [st,zB,zB,e];rfl,sm.trans su⟩;refine ⟨u,[.int r.lo,.int r.hi],rfl,.inr (aX.of xQ),rfl,rfl,zr rfl ?_⟩;rw [gb];cases w9:(decide (q2.2.w=r.lo) || decide (q2.2.w=r.hi)) with
   | false=>
    refine aA rfl (.inr (zr rfl (aG rfl rfl ⟨.inl ⟨by decide,by decide⟩,fin _ ?_⟩)));rw [w9];rfl
   | true=>
    refine ak rfl (zr rfl (bH (su _ _ kq) rfl (zr rfl (aG rfl rfl (.inr (zr rfl (aG rfl rfl ⟨.inl ⟨by decide,by decide⟩,fin _ ?_⟩)))))));rw [w9,zu];by_cases h9:q2.2.t < r.t
    ·rw [decide_eq_true h9,decide_eq_false (by omega:¬ q2.2.t ≥ r.t)];rfl
    ·rw [decide_eq_false h9,decide_eq_true (by omega:q2.2.t ≥ r.t)];rfl
  rintro τ acc H5 ⟨⟨t0,rfl⟩,rfl,sm⟩ l4 Sd;rw [zA,show (ls.map (·.2)).take ls.length=ls.map (·.2) from yY (by rw [zA];exact zJ _)];have e4:((ls.map (·.2)).map λs=>if (decide (s.w=r.lo) || decide (s.w=r.hi)) && !decide (s.t ≥ r.t) then (99:Int) else 0)=fm r (λs=>decide (s.t ≥ r.t)) (ls.map (·.2)):=rfl;rw [e4];have c4:=c3.same (sm.trans (xT (o:=HO.lst ((fm r (λs=>decide (s.t ≥ r.t)) (ls.map (·.2))).map V.int)) Sd));have k4:upd H5 l4 (HO.lst ((fm r (λs=>decide (s.t ≥ r.t)) (ls.map (·.2))).map V.int)) l4=some (.lst ((fm r (λs=>decide (s.t ≥ r.t)) (ls.map (·.2))).map V.int)):=xQ;generalize upd H5 l4 _=H6 at c4 k4 ⊢
  first | refine cU _ (by simp only [L2.start,zI,zg,zH,zL,zj,zk,zp,zn,List.replicate,zP,zb,zO,zM,zN];exact rfl) ?_ | refine fk _ (by simp only [L2.start,zI,zg,zH,zL,zj,zk,zp,zn,List.replicate,zP,zb,zO,zM,zN];exact rfl) ?_ | skip
  refine (zr rfl (zr rfl ⟨z,l4,zr rfl ⟨k4,dz.same c4.s,by rw [iB,zA];omega,λH7 s9=>(zr rfl ?_)⟩⟩));have c7:=c4.same s9;cases V8:iD H6 (fm r (λs=>decide (s.t ≥ r.t)) (ls.map (·.2))) z with
  | false=>
   refine ak rfl (q0 (λa e ha=>?_) _ c7.s);obtain ⟨g1,g2,g3,g4⟩:=vx a e ha;rw [g3,f9 (c4.s _ _ ha.b)] at V8;unfold dX;rw [V8];simp
  | true=>
  obtain ⟨pb,bg,ep,kn4,ok4⟩:=i8 V8;subst ep;have Uh:=kC dz c4.s kn4;refine aA rfl ?_
  first | refine cU _ (by simp only [L2.start,zI,zg,zH,zL,zj,zk,zp,zn,List.replicate,zP,zb,zO,zM,zN];exact rfl) ?_ | refine fk _ (by simp only [L2.start,zI,zg,zH,zL,zj,zk,zp,zn,List.replicate,zP,zb,zO,zM,zN];exact rfl) ?_ | skip
  refine (zr rfl ⟨lw,rfl,⟨_,aB.of (c7.s _ _ hw.l)⟩,?_⟩);refine (let W27:IC:=λi τ acc H5=>(∃ t0,τ=[t0,some (.int r.t),some (.int r.lo),some (.int r.hi)])/\acc=(((ws.map (·.2)).take i).map λs=>if (decide (s.w=r.lo) || decide (s.w=r.hi)) && !decide (s.t < r.t) then (99:Int) else 0).map V.int/\ay H7 H5;wT (K:=K) (a:=lw) (xs:=ws.map λa=>V.ref a.1) W27 ⟨⟨_,rfl⟩,rfl,ay.refl _⟩ (by rw [zA];omega) ?_ ?_ ?_)
  ·rintro i τ acc H5 ⟨_,rfl,sm⟩;refine ⟨?_,aB.of (sm _ _ (c7.s _ _ hw.l))⟩;rw [zA,zA,zR];omega
  ·rintro i v0 τ acc H5 C hv ⟨⟨t0,rfl⟩,rfl,sm⟩ hC;obtain ⟨q2,hq,rfl⟩:=wF hv;have kq:=sm _ _ (c7.s _ _ (hw.each q2 (zC hq)));have st:=xv (qC hq);refine (zr rfl (bH kq rfl (zr rfl (zr rfl ⟨by show 2<=sizeLine;omega,λu hu=>?_⟩))));have su:=xT (o:=HO.tup [V.int r.lo,V.int r.hi]) hu;have fin:∀ x:Int,x=(if (decide (q2.2.w=r.lo) || decide (q2.2.w=r.hi)) && !decide (q2.2.t < r.t) then 99 else 0)->C [some (.ref q2.1),some (.int r.t),some (.int r.lo),some (.int r.hi)] ((((ws.map (·.2)).take i).map λs=>if (decide (s.w=r.lo) || decide (s.w=r.hi)) && !decide (s.t < r.t) then (99:Int) else 0).map V.int++[V.int x]) (upd H5 u (HO.tup [V.int r.lo,V.int r.hi])):=λx e=>hC _ _ _ ⟨⟨_,rfl⟩,by rw [st,zB,zB,e];rfl,sm.trans su⟩;refine ⟨u,[.int r.lo,.int r.hi],rfl,.inr (aX.of xQ),rfl,rfl,zr rfl ?_⟩;rw [gb];cases w9:(decide (q2.2.w=r.lo) || decide (q2.2.w=r.hi)) with
   | false=>
    refine aA rfl (.inr (zr rfl (aG rfl rfl ⟨.inl ⟨by decide,by decide⟩,fin _ ?_⟩)));rw [w9];rfl
   | true=>
    refine ak rfl (zr rfl (bH (su _ _ kq) rfl (zr rfl (aG rfl rfl (.inr (zr rfl (aG rfl rfl ⟨.inl ⟨by decide,by decide⟩,fin _ ?_⟩)))))));rw [w9,zu];by_cases h9:q2.2.t < r.t
    ·rw [decide_eq_true h9,decide_eq_false (by omega:¬ r.t<=q2.2.t)];rfl
    ·rw [decide_eq_false h9,decide_eq_true (by omega:r.t<=q2.2.t)];rfl
  rintro τ acc H5 ⟨⟨t0,rfl⟩,rfl,sm⟩ l8 Sd;rw [zA,show (ws.map (·.2)).take ws.length=ws.map (·.2) from yY (by rw [zA];exact zJ _)];have e8:((ws.map (·.2)).map λs=>if (decide (s.w=r.lo) || decide (s.w=r.hi)) && !decide (s.t < r.t) then (99:Int) else 0)=fm r (λs=>decide (s.t < r.t)) (ws.map (·.2)):=rfl;rw [e8];have c8:=c7.same (sm.trans (xT (o:=HO.lst ((fm r (λs=>decide (s.t < r.t)) (ws.map (·.2))).map V.int)) Sd));have k8:upd H5 l8 (HO.lst ((fm r (λs=>decide (s.t < r.t)) (ws.map (·.2))).map V.int)) l8=some (.lst ((fm r (λs=>decide (s.t < r.t)) (ws.map (·.2))).map V.int)):=xQ;generalize upd H5 l8 _=H6 at c8 k8 ⊢
  first | refine cU _ (by simp only [L2.start,zI,zg,zH,zL,zj,zk,zp,zn,List.replicate,zP,zb,zO,zM,zN];exact rfl) ?_ | refine fk _ (by simp only [L2.start,zI,zg,zH,zL,zj,zk,zp,zn,List.replicate,zP,zb,zO,zM,zN];exact rfl) ?_ | skip
  refine (zr rfl (zr rfl ⟨w0,l8,zr rfl ⟨k8,dw.same c8.s,by rw [iB,zA];omega,λH9 s9=>(zr rfl ?_)⟩⟩));have c9:=c8.same s9;cases V7:iD H6 (fm r (λs=>decide (s.t < r.t)) (ws.map (·.2))) w0 with
  | false=>
   refine ak rfl (q0 (λa e ha=>?_) _ c9.s);obtain ⟨g1,g2,g3,g4⟩:=vx a e ha;rw [g4,f9 (c8.s _ _ ha.c)] at V7;unfold dX;rw [V7];simp
  | true=>
  obtain ⟨pc,cm,ep,kn8,ok8⟩:=i8 V7;subst ep;have Ug:=kC dw c8.s kn8;refine aA rfl ?_;obtain ⟨R3,bg0,mbg⟩:=jE ok4;obtain ⟨lcm,cm0,mcm⟩:=jE ok8;rw [zA] at R3 lcm;have rg:dX aa r (ls.map (·.2)) (ws.map (·.2)) bs rs ks ⟨th,bk,bg,cm⟩=match aM bs r (ls.map (·.2)) (ws.map (·.2)) ⟨th,bk,bg,cm⟩ with
   | some cs=>if (cs.zip aa).all (λp=>decide (p.1<=p.2)) then some (cs,dU rs bg,dU ks cm) else none
   | none=>none:=by
   unfold dX;rw [okn,decide_eq_true tb,ok4,ok8];rfl
  have uniq:∀ a:RA,V.ref l=.ref a.a->RA.At H0 a->a.r=⟨th,bk,bg,cm⟩:=λa ea ha=>by
   obtain ⟨g1,g2,g3,g4⟩:=vx a ea ha;have hb:=ha.b;have hc:=ha.c;rw [<-V.ref.inj g3,Uh] at hb;rw [<-V.ref.inj g4,Ug] at hc;have e1:=dN (show bg.map V.int=a.r.bg.map V.int by injection (Option.some.inj hb));have e2:=dN (show cm.map V.int=a.r.cm.map V.int by injection (Option.some.inj hc));rw [V.int.inj g1,V.int.inj g2,e1,e2]
  have nq:dX aa r (ls.map (·.2)) (ws.map (·.2)) bs rs ks ⟨th,bk,bg,cm⟩=none->∀ H',ay H0 H'->Q (.bl false) H':=λe=>q0 λa ea ha=>by rw [uniq a ea ha];exact e
  have q1:=q1 ⟨l,pb,pc,⟨th,bk,bg,cm⟩⟩;have at0:RA.At H0 ⟨l,pb,pc,⟨th,bk,bg,cm⟩⟩:=⟨kl,Uh,Ug⟩;clear vx V1 q0 lv V8 V7 kn kn4 kn8 c1 c2 c3 c4 c7 c8 k1 k2 k4 k8 okn;obtain ⟨Ll,hLl⟩:∃ z,z=bE (ls.map (·.2)) bg r.lo:=⟨_,rfl⟩;obtain ⟨Lh,hLh⟩:∃ z,z=bE (ls.map (·.2)) bg r.hi:=⟨_,rfl⟩;obtain ⟨Wl,hWl⟩:∃ z,z=bE (ws.map (·.2)) cm r.lo:=⟨_,rfl⟩;obtain ⟨Wh,hWh⟩:∃ z,z=bE (ws.map (·.2)) cm r.hi:=⟨_,rfl⟩
  first | refine cU _ (by simp only [L2.start,zI,zg,zH,zL,zj,zk,zp,zn,List.replicate,zP,zb,zO,zM,zN];exact rfl) ?_ | refine fk _ (by simp only [L2.start,zI,zg,zH,zL,zj,zk,zp,zn,List.replicate,zP,zb,zO,zM,zN];exact rfl) ?_ | skip
  refine (zr rfl (zr rfl (zr rfl (zr rfl ⟨ll,pb,ls,bg,r.lo,rfl,hl.same c9.s,c9.s _ _ Uh,R3,bD,λeX gj=>(aG rfl rfl ?_)⟩))));have WI:=c9.same gj
  first | refine cU _ (by simp only [L2.start,zI,zg,zH,zL,zj,zk,zp,zn,List.replicate,zP,zb,zO,zM,zN];exact rfl) ?_ | refine fk _ (by simp only [L2.start,zI,zg,zH,zL,zj,zk,zp,zn,List.replicate,zP,zb,zO,zM,zN];exact rfl) ?_ | skip
  refine (zr rfl (zr rfl (zr rfl (zr rfl ⟨ll,pb,ls,bg,r.hi,rfl,hl.same WI.s,WI.s _ _ Uh,R3,bD,λfX Nu=>(aG rfl rfl ⟨by show 2<=sizeLine;omega,λlo hlo=>?_⟩)⟩))));rw [<-hLl,<- hLh];have nlo:=xV (WI.same Nu).b hlo;have Ru:=(WI.same Nu).same (xT (o:=HO.lst [V.int (th - Ll),V.int (bk - Lh)]) hlo);have N1:upd fX lo (HO.lst [V.int (th - Ll),V.int (bk - Lh)]) lo=some (.lst [V.int (th - Ll),V.int (bk - Lh)]):=xQ;generalize upd fX lo _=lI at Ru N1 ⊢
  first | refine cU _ (by simp only [L2.start,zI,zg,zH,zL,zj,zk,zp,zn,List.replicate,zP,zb,zO,zM,zN];exact rfl) ?_ | refine fk _ (by simp only [L2.start,zI,zg,zH,zL,zj,zk,zp,zn,List.replicate,zP,zb,zO,zM,zN];exact rfl) ?_ | skip
  refine (zr rfl (zr rfl (zr rfl (zr rfl ⟨lw,pc,ws,cm,r.lo,rfl,hw.same Ru.s,Ru.s _ _ Ug,lcm,bX,λJK rR=>(aG rfl rfl ?_)⟩))));have WH:=Ru.same rR
  first | refine cU _ (by simp only [L2.start,zI,zg,zH,zL,zj,zk,zp,zn,List.replicate,zP,zb,zO,zM,zN];exact rfl) ?_ | refine fk _ (by simp only [L2.start,zI,zg,zH,zL,zj,zk,zp,zn,List.replicate,zP,zb,zO,zM,zN];exact rfl) ?_ | skip
  refine (zr rfl (zr rfl (zr rfl (zr rfl ⟨lw,pc,ws,cm,r.hi,rfl,hw.same WH.s,WH.s _ _ Ug,lcm,bX,λOx uD=>(aG rfl rfl ⟨by show 2<=sizeLine;omega,λli hli=>?_⟩)⟩))));rw [<-hWl,<- hWh];have nli:=xV (WH.same uD).b hli;have si:=xT (o:=HO.lst [V.int (bk - Wl),V.int (th - Wh)]) hli;have c14:=(WH.same uD).same si;have R7:upd Ox li (HO.lst [V.int (bk - Wl),V.int (th - Wh)]) li=some (.lst [V.int (bk - Wl),V.int (th - Wh)]):=xQ;have N1:=si _ _ (uD _ _ (rR _ _ N1));generalize upd Ox li _=Pn at c14 R7 N1 ⊢
  first | refine cU _ (by simp only [L2.start,zI,zg,zH,zL,zj,zk,zp,zn,List.replicate,zP,zb,zO,zM,zN];exact rfl) ?_ | refine fk _ (by simp only [L2.start,zI,zg,zH,zL,zj,zk,zp,zn,List.replicate,zP,zb,zO,zM,zN];exact rfl) ?_ | skip
  refine (zr rfl ⟨by decide,by decide,?_⟩);refine (let W28:IV:=λi σ H6=>(∃ lG v20 ni,σ=[some (.ref tr),some (.ref m),some (.ref ll),some (.ref lw),some (.ref l),some (.ref st),some (.int r.lo),some (.int r.hi),some (.int r.t),some (.int r.m),some (.ref lb),some (.ref lr),some (.ref lk),some (.int th),some (.int bk),some (.ref pb),some (.ref pc),lG,some (.ref lo),some (.ref li),v20,ni])/\∃ cs,gq bs r (ls.map (·.2)) (ws.map (·.2)) ⟨th,bk,bg,cm⟩ i cs/\cs.length=aa.length/\dR H0 st lb lr lk cs rs ks H6/\H6 lo=some (.lst [V.int (th - Ll),V.int (bk - Lh)])/\H6 li=some (.lst [V.int (bk - Wl),V.int (th - Wh)]);wq (lo:=0) (n:=2) W28 ⟨⟨_,_,_,rfl⟩,bs,rfl,TR,c14,N1,R7⟩ ?_ ?_)
  ·rintro i σ H6 hi ⟨⟨lG,v20,ni,rfl⟩,cs,tu,lcs,c,N1,R7⟩;obtain ⟨w1,o1,n1,m1,m2,m3,X0,XZ,good,Rx⟩:∃ w1 o1 n1,bQ [V.int r.lo,V.int r.hi,V.int r.t,V.int r.m] (0 + (i:Int))=some (.int w1)/\bQ [V.int (th - Ll),V.int (bk - Lh)] (0 + (i:Int))=some (.int o1)/\bQ [V.int (bk - Wl),V.int (th - Wh)] (0 + (i:Int))=some (.int n1)/\0<=w1/\w1 < cs.length/\(0<=o1/\o1<=aP cs w1/\0<=n1->gq bs r (ls.map (·.2)) (ws.map (·.2)) ⟨th,bk,bg,cm⟩ (i + 1) (cs.set w1.toNat (aP cs w1 - o1 + n1)))/\(¬(0<=o1/\o1<=aP cs w1/\0<=n1)->aM bs r (ls.map (·.2)) (ws.map (·.2)) ⟨th,bk,bg,cm⟩=none):=by
    match i,hi,tu with
    | 0,_,tu=>exact ⟨_,aG rfl rfl ⟨rfl,a1,by omega,λg=>Sv tu hLl hWl g,λg=>aaX tu hLl hWl g⟩⟩
    | 1,_,tu=>exact ⟨_,aG rfl rfl ⟨rfl,by omega,by omega,λg=>Su a1 a2 tu hLh hWh g,λg=>aaW a1 a2 tu hLh hWh g⟩⟩
   refine (zr rfl (zr rfl (bH (c.s _ _ hm) m1 ?_)));refine (zr rfl (zr rfl (bL N1 m2 (aG rfl rfl (zr rfl ?_)))));by_cases h1:0<=o1
   rotate_left
   ·exact aA (decide_eq_false h1) (zr rfl (ak rfl (ak rfl (nq (by rw [rg,Rx λg=>h1 g.1]) _ c.s))))
   refine ak (decide_eq_true h1) (zr rfl (zr rfl (bL c.b (jv X0 XZ) (aG rfl rfl (zr rfl ?_)))));by_cases h2:o1<=aP cs w1
   rotate_left
   ·exact ak (by rw [decide_eq_false h2];rfl) (ak rfl (nq (by rw [rg,Rx λg=>h2 g.2.1]) _ c.s))
   refine aA (by rw [decide_eq_true h2];rfl) (zr rfl (zr rfl (bL R7 m3 (aG rfl rfl (zr rfl ?_)))));by_cases h3:n1 < 0
   ·exact ak (decide_eq_true h3) (nq (by rw [rg,Rx λg=>absurd g.2.2 (by omega)]) _ c.s)
   refine aA (decide_eq_false h3) ?_;refine (zr rfl (zr rfl (bL c.b (jv X0 XZ) (zr rfl (zr rfl (bL N1 m2 (aG rfl rfl (zr rfl (zr rfl (bL R7 m3 (aG rfl rfl ?_)))))))))));refine (zr rfl (zr rfl ⟨lb,_,_,w1.toNat,rfl,rfl,c.b,tD X0 (by rw [zA];exact XZ),?_⟩));refine ⟨⟨_,_,_,rfl⟩,_,good ⟨h1,h2,by omega⟩,by rw [yI,lcs],?_,?_,?_⟩
   ·have:=c.setB (xs:=cs.set w1.toNat (aP cs w1 - o1 + n1));rw [yP] at this;exact this
   ·rw [xj nlo.symm];exact N1
   ·rw [xj nli.symm];exact R7
  rintro σ WQ ⟨⟨lG,v20,ni,rfl⟩,cs,tu,lcs,c,_,_⟩;have hbf:=Ss tu
  first | refine cU _ (by simp only [L2.start,zI,zg,zH,zL,zj,zk,zp,zn,List.replicate,zP,zb,zO,zM,zN];exact rfl) ?_ | refine fk _ (by simp only [L2.start,zI,zg,zH,zL,zj,zk,zp,zn,List.replicate,zP,zb,zO,zM,zN];exact rfl) ?_ | skip
  refine (zr rfl ⟨ll,zr rfl ⟨.inl (aB.of (c.s _ _ hl.l)),zr rfl ⟨by rw [zA];omega,by rw [zA];omega,?_⟩⟩⟩);rw [zA];refine (let W29:IV:=λi σ H6=>(∃ lG v20 ni,σ=[some (.ref tr),some (.ref m),some (.ref ll),some (.ref lw),some (.ref l),some (.ref st),some (.int r.lo),some (.int r.hi),some (.int r.t),some (.int r.m),some (.ref lb),some (.ref lr),some (.ref lk),some (.int th),some (.int bk),some (.ref pb),some (.ref pc),lG,some (.ref lo),some (.ref li),v20,ni])/\dR H0 st lb lr lk cs (fP rs bg i) ks H6;wq (lo:=0) (n:=ls.length) W29 ⟨⟨_,_,_,rfl⟩,by rw [Kn];exact c⟩ ?_ ?_)
  ·rintro i σ H6 hi ⟨⟨lG,v20,ni,rfl⟩,c⟩;have x1:bQ ((fP rs bg i).map V.int) (0 + (i:Int))=some (.int (aH rs i)):=by rw [yB];exact wA (by rw [zD,uv (by omega)];rfl)
   have x2:bQ (bg.map V.int) (0 + (i:Int))=some (.int (aH bg i)):=by rw [yB];exact wA (by rw [zD,wY (by omega)];rfl)
   refine (zr rfl (zr rfl (bL c.r x1 (zr rfl (zr rfl (bL (c.s _ _ Uh) x2 (aG rfl rfl ?_)))))));refine (zr rfl (zr rfl ⟨lr,_,_,i,rfl,rfl,c.r,by rw [yB];exact qK (by rw [zA,fO];omega),?_⟩));refine ⟨⟨_,_,_,rfl⟩,?_⟩;have:=c.SJ (xs:=(fP rs bg i).set i (aH rs i - aH bg i));rw [yP] at this;rw [<-oU (by omega)];exact this
  rintro σ RK ⟨⟨lG,v20,ni,rfl⟩,c⟩;rw [<-Jd,oW] at c
  first | refine cU _ (by simp only [L2.start,zI,zg,zH,zL,zj,zk,zp,zn,List.replicate,zP,zb,zO,zM,zN];exact rfl) ?_ | refine fk _ (by simp only [L2.start,zI,zg,zH,zL,zj,zk,zp,zn,List.replicate,zP,zb,zO,zM,zN];exact rfl) ?_ | skip
  refine (zr rfl ⟨lw,zr rfl ⟨.inl (aB.of (c.s _ _ hw.l)),zr rfl ⟨by rw [zA];omega,by rw [zA];omega,?_⟩⟩⟩);rw [zA];refine (let W30:IV:=λi σ H6=>(∃ lG v20 ni,σ=[some (.ref tr),some (.ref m),some (.ref ll),some (.ref lw),some (.ref l),some (.ref st),some (.int r.lo),some (.int r.hi),some (.int r.t),some (.int r.m),some (.ref lb),some (.ref lr),some (.ref lk),some (.int th),some (.int bk),some (.ref pb),some (.ref pc),lG,some (.ref lo),some (.ref li),v20,ni])/\dR H0 st lb lr lk cs (dU rs bg) (fP ks cm i) H6;wq (lo:=0) (n:=ws.length) W30 ⟨⟨_,_,_,rfl⟩,by rw [Kn];exact c⟩ ?_ ?_)
  ·rintro i σ H6 hi ⟨⟨lG,v20,ni,rfl⟩,c⟩;have x1:bQ ((fP ks cm i).map V.int) (0 + (i:Int))=some (.int (aH ks i)):=by rw [yB];exact wA (by rw [zD,uv (by omega)];rfl)
   have x2:bQ (cm.map V.int) (0 + (i:Int))=some (.int (aH cm i)):=by rw [yB];exact wA (by rw [zD,wY (by omega)];rfl)
   refine (zr rfl (zr rfl (bL c.k x1 (zr rfl (zr rfl (bL (c.s _ _ Ug) x2 (aG rfl rfl ?_)))))));refine (zr rfl (zr rfl ⟨lk,_,_,i,rfl,rfl,c.k,by rw [yB];exact qK (by rw [zA,fO];omega),?_⟩));refine ⟨⟨_,_,_,rfl⟩,?_⟩;have:=c.SK (xs:=(fP ks cm i).set i (aH ks i - aH cm i));rw [yP] at this;rw [<-oU (by omega)];exact this
  rintro σ RK ⟨⟨lG,v20,ni,rfl⟩,c⟩;rw [<-Lk,oW] at c
  first | refine cU _ (by simp only [L2.start,zI,zg,zH,zL,zj,zk,zp,zn,List.replicate,zP,zb,zO,zM,zN];exact rfl) ?_ | refine fk _ (by simp only [L2.start,zI,zg,zH,zL,zj,zk,zp,zn,List.replicate,zP,zb,zO,zM,zN];exact rfl) ?_ | skip
  refine (zr rfl ⟨lb,zr rfl ⟨.inl (aB.of c.b),zr rfl ⟨by rw [zA];omega,by rw [zA];omega,?_⟩⟩⟩);rw [zA];refine (let W31:IC:=λi τ acc H5=>(∃ t0,τ=[t0,some (.ref lb),some (.ref tr)])/\acc=(((cs.zip aa).take i).map λp=>decide (p.1<=p.2)).map V.bl/\ay RK H5;fE (lo:=0) (m:=cs.length) W31 ⟨⟨_,rfl⟩,rfl,ay.refl _⟩ (by omega) ?_ ?_ ?_)
  ·rintro i τ acc H5 ⟨_,rfl,sm⟩;rw [zA,zA,zR];omega
  ·rintro i τ acc H5 C hi ⟨⟨t0,rfl⟩,rfl,sm⟩ hC;have x1:bQ (cs.map V.int) (0 + (i:Int))=some (.int (aH cs i)):=by rw [yB];exact wA (by rw [zD,wY hi];rfl)
   have x2:bQ (aa.map V.int) (0 + (i:Int))=some (.int (aH aa i)):=by rw [yB];exact wA (by rw [zD,wY (by omega)];rfl)
   refine (zr rfl (zr rfl (bL (sm _ _ c.b) x1 (zr rfl (zr rfl (bH (sm _ _ (c.s _ _ Wj)) x2 (aG rfl rfl (hC _ _ _ ⟨⟨_,rfl⟩,?_,sm⟩))))))));rw [xv (cW (wY hi) (wY (xs:=aa) (by omega))),zB,zB];rfl
  rintro τ acc H5 ⟨⟨t0,rfl⟩,rfl,sm⟩ lc kJ;refine ⟨lc,zr rfl ⟨aB.of xQ,?_⟩⟩;have cf:=c.same (sm.trans (xT (o:=HO.lst ((((cs.zip aa).take cs.length).map λp=>decide (p.1<=p.2)).map V.bl)) kJ));have e3:cs.length=(cs.zip aa).length:=by rw [List.length_zip];omega
  rw [show (cs.zip aa).take cs.length=cs.zip aa by rw [e3,zd]] at cf ⊢;rw [ym];rw [hbf] at rg;dsimp only at rg;cases al:(cs.zip aa).all (id ∘ λp:Int×Int=>decide (p.1<=p.2)) with
  | true=>exact q1 cs _ _ rfl at0 (by rw [rg];exact if_pos al) _ cf
  | false=>
   refine nq (by rw [rg,if_neg];intro z;rw [show (cs.zip aa).all (λp=>decide (p.1<=p.2))=false from al] at z;cases z) _ cf.s
theorem C6:aF ["_law_loads", "_law_wants", "_law_one", "_law_state", "_law_load", "_law_want", "_law_some"] ["_law_loads", "_law_wants", "_law_one", "_law_state"] (aj wU):=L2.bw
theorem EX (T:Tx K mg a):aW P w K mg base dQ 2 a.Am a.AO ["_law_loads", "_law_wants", "_law_one", "_law_state"] (KC):=by
 have Cv:=Da P w base T;refine T.Az.ok C6 (λvs H Q E h=>?_) (λbO A outer s H vs Q E hr h=>?_)
 ·obtain ⟨_,_,_,_,_,_,_,_,_,_,_,_,_,rfl,_⟩:=h;rfl
 ·have nd:=C6.nd;have hu:=hr.units;obtain ⟨ll,lw,v,st,lb,lr,lk,ls,ws,bs,rs,ks,H0,rfl,co,Jd,Lk,hl,hw,bD,bX,dt,q0,q1⟩:=h;refine bP ?_;intro Y
  let B0:Bk Y ((af wU).drop 6):=⟨_,(xU (xu (xq (qj (wf qA (xi (xo rfl) (xi (xh rfl) (pv 0) (pv 4) (λ_ _=>rfl)) xS (λ_ _=>rfl)) (xi (xo rfl) (xi (xh rfl) (pv 1) (pv 5) (λ_ _=>rfl)) xS (λ_ _=>rfl)) (av _)) (qo (wf cR (xi (xo rfl) (xi (xh rfl) (pv 0) (pv 4) (λ_ _=>rfl)) xS (λ_ _=>rfl)) (xi (xo rfl) (xi (xh rfl) (pv 1) (pv 5) (λ_ _=>rfl)) xS (λ_ _=>rfl)) (av _)))))))⟩
  let B1:Bk Y ((af wU).drop 5):=⟨_,(xU (xl (wG (xm wW (xi (xh rfl) (xi (xo rfl) (pv 3) xS (λ_ _=>rfl)) (pv 5) (λ_ _=>rfl)) (pv 6)) (wy (xi (xo rfl) (pv 3) xS (λ_ _=>rfl)) (pv 5) wJ)) B0.bl))⟩
  let B2:Bk Y ((af wU).drop 4):=⟨_,(xU (xl (wG (xm wW (xi (xh rfl) (xi (xo rfl) (pv 3) xS (λ_ _=>rfl)) (pv 4) (λ_ _=>rfl)) (pv 6)) (wy (xi (xo rfl) (pv 3) xS (λ_ _=>rfl)) (pv 4) wJ)) B1.bl))⟩
  let B3:Bk Y ((af wU).drop 3):=⟨_,(xU (xl (xx (@PW.pt _ _ _ (qM (wN (ir cR cu xS (pv 4) (xf (xg rfl) (by rfl) T.aJ PySem.boot_len (xP (xR (pv 0) xW rfl))))) (qM (wN (ir cR cu xS (pv 5) (xf (xg rfl) (by rfl) T.aJ PySem.boot_len (xP (xR (pv 1) xW rfl))))) (wx (xp cu (pv 6) xS (av _)))))) (xU (xu (xq qL))) xr) B2.bl))⟩
  let B4:Bk Y ((af wU).drop 1):=⟨_,(xU (xl (xx (wN (wQ (xf (qp rfl rfl) (by rfl) T.iP yO (xP (xR (wc (own:=["_law_part"]) (caps:=[]) rfl (show aD ["_law_part"] [] ["_law_loads", "_law_wants", "_law_one", "_law_state", "_law_load", "_law_want", "_law_some"] (aj wU) _ from L2.b8) (iw rfl (pv 2)) (λ_ _ _ _=>(xX (i:=0) (show List.Nodup (["_law_part"]:List Str) from by decide +kernel) rfl rfl)) (λ_ _ _ _=>wP) (λ_ _ _ _=>(xZ Cv (hr.mono (by decide)) rfl T.DA T.DD T.DG .nil aq (xP (xR (pv 0) xW rfl))))) xW rfl))))) (xU (xu (xq qL))) xr) (xl (wG (pv 2) (wE (n:=3) rfl rfl (xY (xX (i:=4) nd rfl rfl) (xY (xX (i:=5) nd rfl rfl) (xY (xX (i:=6) nd rfl rfl) wD))))) B3.bl)))⟩
  refine ⟨_,(xU (xl (xx (@PW.pt _ _ _ (qM (wN (wQ (xf (wL) (by rfl) T.aI zh (xP (xR (pv 2) (xR (qI (v:=V.ty "tuple") rfl T.bI zy rfl) xW rfl) rfl))))) (wx (xp gu (xf (xg rfl) (by rfl) T.aJ PySem.boot_len (xP (xR (pv 2) xW rfl))) xS (av _))))) (xU (xu (xq qL))) xr) B4.bl)),?_⟩;have line:=bf;have V2:(∀ t:Addr×T3,v=.ref t.1->H0 t.1=some (.tup [.int t.2.k,.int t.2.j,.int t.2.m])->False)->∀ H',ay H0 H'->Q (.bl false) H':=λf=>q0 λx e hx=>(f x e hx).elim;rcases dt.way with ⟨l,xs,rfl,kl,_,e1,ex⟩ | ⟨l,xs,rfl,kl,_,e1,ex⟩ | ⟨t,ht,_,n1,_,e1⟩
  ·refine (zr rfl ⟨_, "list", "tuple", rfl,wt (co.s _ _ kl),.inr (.inr (.inr rfl)),zr rfl (ak rfl (V2 (λx e hx=>?_) _ co.s))⟩);cases e;rw [hx] at kl;cases kl
  rotate_left
  ·refine (zr rfl ⟨_,t, "tuple", rfl,qB co.s ht,.inr (.inr (.inr rfl)),zr rfl (ak (by rw [n1];rfl) (V2 (λx e hx=>?_) _ co.s))⟩);rw [e,wz hx] at ht;cases ht;cases n1
  refine (zr rfl ⟨_, "tuple", "tuple", rfl,wz (co.s _ _ kl),.inr (.inr (.inr rfl)),zr rfl (aA rfl (zr rfl ⟨l,zr rfl ⟨.inr (aX.of (co.s _ _ kl)),rfl,zr rfl ?_⟩⟩))⟩);by_cases e3:xs.length=3
  rotate_left
  ·refine ak ?_ (V2 (λx e hx=>?_) _ co.s)
   ·simp;omega
   ·cases e;rw [hx] at kl;cases kl;exact e3 rfl
  refine aA (by simp;omega) ?_;refine (zr rfl ⟨l,rfl,⟨_,aX.of (co.s _ _ kl)⟩,?_⟩);refine (let W32:IC:=λi τ acc H5=>(∃ t0,τ=[t0])/\acc=((xs.take i).map mz).map V.bl/\ay H H5;kU (K:=K) (a:=l) (xs:=xs) W32 ⟨⟨_,rfl⟩,rfl,ay.refl _⟩ (by omega) ?_ ?_ ?_)
  ·rintro i τ acc H5 ⟨_,rfl,sm⟩;refine ⟨?_,aX.of (sm _ _ (co.s _ _ kl))⟩;rw [zA,zA,zR];omega
  ·rintro i v τ acc H5 C hv ⟨⟨t0,rfl⟩,rfl,sm⟩ hC;obtain ⟨ty,MH⟩:=ex v (zC hv);refine (zr rfl ⟨v,ty,rfl,qB (co.s.trans sm) MH,?_⟩);rw [Lq MH];exact hC _ _ _ ⟨⟨_,rfl⟩,by rw [xv hv,zB,zB];rfl,sm⟩
  rintro τ acc H5 ⟨⟨t0,rfl⟩,rfl,sm⟩ lc kJ;have c1:=co.same (sm.trans (xT (o:=HO.lst (((xs.take xs.length).map mz).map V.bl)) kJ));refine ⟨lc,zr rfl ⟨aB.of xQ,zr rfl ?_⟩⟩;rw [zd] at c1 ⊢;rw [ym];generalize upd H5 lc _=H6 at c1 ⊢;obtain ⟨x,y,z,rfl⟩:=ue e3;cases al:[x,y,z].all (id ∘ mz) with
  | false=>
   refine ak rfl (V2 (λt e hx=>?_) _ c1.s);cases e;rw [hx] at kl;cases kl;cases al
  | true=>
  have hi:∀ u∈[x,y,z],∃ i,u=.int i:=λu hu=>tG (yH.mp al u hu);obtain ⟨k,rfl⟩:=hi x (by simp);obtain ⟨j,rfl⟩:=hi y (by simp);obtain ⟨m,rfl⟩:=hi z (by simp);have uq:∀ t:Addr×T3,V.ref l=.ref t.1->H0 t.1=some (.tup [.int t.2.k,.int t.2.j,.int t.2.m])->t.2=⟨k,j,m⟩:=λt e hx=>by
   cases e;rw [hx] at kl;injection (Option.some.inj kl) with e
   injection e with e1 e
   injection e with e2 e
   injection e with e3 e
   rw [<-V.int.inj e1,<- V.int.inj e2,<- V.int.inj e3]
  have nq:dJ (ls.map (·.2)) (ws.map (·.2)) rs ks ⟨k,j,m⟩=none->∀ H',ay H0 H'->Q (.bl false) H':=λe=>q0 λt et ht=>by rw [uq t et ht];exact e
  have oc:¬(((0<=k/\k < ls.length)/\(0<=j/\j < ws.length)/\1<=m))->dJ (ls.map (·.2)) (ws.map (·.2)) rs ks ⟨k,j,m⟩=none:=λh=>by
   unfold dJ;rw [zA,zA];refine if_neg λz=>h ?_;simp only [zW,decide_eq_true_eq] at z;exact ⟨z.1.1,z.1.2.1,z.1.2.2⟩
  refine aA rfl (zr rfl (MW (c1.s _ _ kl) ?_));refine (zr rfl (aG rfl rfl (zr rfl ?_)));by_cases h1:0<=k
  rotate_left
  ·exact aA (decide_eq_false h1) (zr rfl (ak rfl (ak rfl (nq (oc λz=>h1 z.1.1) _ c1.s))))
  refine ak (decide_eq_true h1) (zr rfl ⟨ll,zr rfl ⟨.inl (aB.of (hl.same c1.s).l),aG rfl rfl (zr rfl ?_)⟩⟩);rw [zA];by_cases h2:k < ls.length
  rotate_left
  ·exact ak (by rw [decide_eq_false h2];rfl) (ak rfl (nq (oc λz=>h2 z.1.2) _ c1.s))
  refine aA (by rw [decide_eq_true h2];rfl) (zr rfl (aG rfl rfl (zr rfl ?_)));by_cases h3:0<=j
  rotate_left
  ·exact aA (decide_eq_false h3) (zr rfl (ak rfl (ak rfl (nq (oc λz=>h3 z.2.1.1) _ c1.s))))
  refine ak (decide_eq_true h3) (zr rfl ⟨lw,zr rfl ⟨.inl (aB.of (hw.same c1.s).l),aG rfl rfl (zr rfl ?_)⟩⟩);rw [zA];by_cases h4:j < ws.length
  rotate_left
  ·exact ak (by rw [decide_eq_false h4];rfl) (ak rfl (nq (oc λz=>h4 z.2.1.2) _ c1.s))
  refine aA (by rw [decide_eq_true h4];rfl) (zr rfl (aG rfl rfl (zr rfl ?_)));by_cases h5:m < 1
  ·exact ak (decide_eq_true h5) (nq (oc λz=>absurd z.2.2 (by omega)) _ c1.s)
  refine aA (decide_eq_false h5) ?_;obtain ⟨K1,rfl⟩:=zm h1;obtain ⟨J1,rfl⟩:=zm h3;have x1:bQ (rs.map V.int) (K1:Int)=some (.int (aH rs K1)):=wA (by rw [zD,wY (by omega)];rfl);have x2:bQ (ks.map V.int) (J1:Int)=some (.int (aH ks J1)):=wA (by rw [zD,wY (by omega)];rfl);refine (zr rfl (bH c1.st rfl (zr rfl (bL c1.r x1 (zr rfl (aG rfl rfl ?_))))));refine (zr rfl (bH c1.st rfl (zr rfl ⟨lr,_,_,K1,rfl,rfl,c1.r,qK (by rw [zA];omega),?_⟩)));have c2:=c1.SJ (xs:=rs.set K1 (aH rs K1 - m));rw [yP] at c2;refine (zr rfl (bH c2.st rfl (zr rfl (bL c2.k x2 (zr rfl (aG rfl rfl ?_))))));refine (zr rfl (bH c2.st rfl (zr rfl ⟨lk,_,_,J1,rfl,rfl,c2.k,qK (by rw [zA];omega),?_⟩)));have c3:=c2.SK (xs:=ks.set J1 (aH ks J1 - m));rw [yP] at c3;obtain ⟨la,O4⟩:∃ r,ls[K1]?=some r:=⟨_,zF (by omega)⟩;obtain ⟨wa,Wf⟩:∃ r,ws[J1]?=some r:=⟨_,zF (by omega)⟩;have y1:bQ (ls.map λa=>V.ref a.1) (K1:Int)=some (V.ref la.1):=wA (by rw [zD,O4];rfl);have y2:bQ (ws.map λa=>V.ref a.1) (J1:Int)=some (V.ref wa.1):=wA (by rw [zD,Wf];rfl);have MI:=hl.same c3.s;have Lw:=hw.same c3.s;have og:dJ (ls.map (·.2)) (ws.map (·.2)) rs ks ⟨K1,J1,m⟩=if ia la.2 wa.2 then some (rs.set K1 (aH rs K1 - m),ks.set J1 (aH ks J1 - m)) else none:=by
   unfold dJ;rw [ny (t:=⟨K1,J1,m⟩) (l:=la.2) (w:=wa.2) (qC O4) (qC Wf),zA,zA,decide_eq_true h1,decide_eq_true h2,decide_eq_true h3,decide_eq_true h4,decide_eq_true (show 1<=m by omega)];rfl
  have fin:∀ bb,bb=ia la.2 wa.2->Q (.bl bb) _:=λbb e=>by
   cases hs:ia la.2 wa.2 with
   | true=>rw [e,hs];exact q1 (l,⟨K1,J1,m⟩) _ _ rfl kl (by rw [og,if_pos hs]) _ c3
   | false=>rw [e,hs];exact nq (by rw [og,if_neg (by rw [hs];decide)]) _ c3.s
  refine (zr rfl (zr rfl (bL MI.l y1 (bH (MI.each la (zC O4)) rfl (zr rfl (zr rfl (bL Lw.l y2 (bH (Lw.each wa (zC Wf)) rfl ⟨rfl,zr rfl ?_⟩))))))));by_cases h6:la.2.w=wa.2.w
  rotate_left
  ·exact aA (decide_eq_false λz=>h6 (V.int.inj z)) (fin _ (by unfold ia;rw [decide_eq_false h6];rfl))
  refine ak (decide_eq_true (congrArg V.int h6)) (zr rfl (zr rfl (bL MI.l y1 (bH (MI.each la (zC O4)) rfl (zr rfl (zr rfl (bL Lw.l y2 (bH (Lw.each wa (zC Wf)) rfl (aG rfl rfl (fin _ ?_))))))))));unfold ia;rw [decide_eq_true h6,zu]
theorem Ey:aF ["_law_book_here", "_law_loads", "_law_wants", "_law_plan_here", "_law_state", "_law_rows", "_law_told", "_law_k"] ["_law_book_here", "_law_loads", "_law_wants", "_law_plan_here"] (aj wH):=L2.bw
theorem Gz (T:Tx K mg a):aW P w K mg base dQ 4 a.AZ a.BU ["_law_book_here", "_law_loads", "_law_wants", "_law_plan_here"] (Ku):=by
 have Gd:=Fh P w base T;have Ft:=EX P w base T;refine T.Bv.ok Ey (λvs H Q E h=>?_) (λbO A outer s H vs Q E hr h=>?_)
 ·obtain ⟨_,_,_,_,_,_,_,_,_,_,rfl,_⟩:=h;rfl
 ·have nd:=Ey.nd;have hu:=hr.units;obtain ⟨b,ll,lw,v,aa,tr,tm,ps,ls,ws,rfl,hb,gd,nF,hl,hw,bD,bX,Y8,XW,dt,eB,q0,q1⟩:=h;refine bP ?_;intro Y
  let B0:Bk Y ((af wH).drop 7):=⟨_,(xU (xu (xq (xm wW (xf (cJ rfl) (by rfl) T.kZ yd (xP (xR (wc (own:=["_law_want"]) (caps:=[]) rfl (show aD ["_law_want"] [] ["_law_book_here", "_law_loads", "_law_wants", "_law_plan_here", "_law_state", "_law_rows", "_law_told", "_law_k"] (aj wH) _ from L2.b8) (wZ rfl (pv 2)) (λ_ _ _ _=>(xX (i:=0) (show List.Nodup (["_law_want"]:List Str) from by decide +kernel) rfl rfl)) (λ_ _ _ _=>wP) (λ_ _ _ _=>(xi (xo rfl) (pv 0) xS (λ_ _=>rfl)))) xW rfl))) (xf (cJ rfl) (by rfl) T.kZ yd (xP (xR (xi (xo rfl) (pv 4) xS (λ_ _=>rfl)) xW rfl)))))))⟩
  let B1:Bk Y ((af wH).drop 6):=⟨_,(xU (xl (xx (xp cu (xf (JE rfl) (by rfl) T.lu yc (xP (xR (xm qS (xm qS (xw (xP (xR xS xW rfl))) (xi (xo rfl) (pv 4) xS (λ_ _=>rfl))) (xi (xo rfl) (pv 4) xS (λ_ _=>rfl))) xW rfl))) xS (av _)) (xU (xu (xq qi))) xr) B0.bl))⟩
  let B2:Bk Y ((nb (af wH) 5).drop 1):=⟨_,(xU (xu (xx (xp (Qy hu) (qQ (jA rfl) (xi (xh rfl) (pv 6) (pv 7) (λ_ _=>rfl)) qh (qX xS)) (wc (own:=["_law_one"]) (caps:=[]) rfl (show aD ["_law_one"] [] ["_law_book_here", "_law_loads", "_law_wants", "_law_plan_here", "_law_state", "_law_rows", "_law_told", "_law_k"] (aj wH) _ from L2.b8) (wZ rfl (qQ (cQ rfl) (pv 6) qh (qX (pv 7)))) (λ_ _ _ _=>(xX (i:=0) (show List.Nodup (["_law_one"]:List Str) from by decide +kernel) rfl rfl)) (λ_ _ _ _=>wP) (λ_ _ _ _=>(qQ (jA rfl) (pv 0) qh (qX xS)))) rfl) (xU (xu (xq qi))) xr)))⟩
  let B3:Bk Y (nb (af wH) 5):=⟨_,(xU (xl (xx (wN (wQ (xZ Ft (hr.mono (by decide)) rfl T.Fk T.Fl T.Fm .nil aq (xP (xR (pv 1) (xR (pv 2) (xR (xi (xh rfl) (pv 6) (pv 7) (λ_ _=>rfl)) (xR (pv 4) xW rfl) rfl) rfl) rfl))))) (xU (xu (xq qi))) xr) B2.bl))⟩
  let B4:Bk Y ((af wH).drop 5):=⟨_,(xU (xl (qP PassesOwn.never rfl (wV rfl T.aU (xP (xR (xf (xg rfl) (by rfl) T.aJ PySem.boot_len (xP (xR (pv 6) xW rfl))) xW rfl))) (xX (i:=7) nd rfl rfl) B3.ps) B1.bl))⟩
  let B5:Bk Y (nb (af wH) 4):=⟨_,(xU (xu (xx (wN (wQ (xZ Gd (hr.mono (by decide)) rfl T.FP T.FU T.FZ .nil aq (xP (xR (xi (xo rfl) (pv 0) xS (λ_ _=>rfl)) (xR (xi (xo rfl) (xi (xo rfl) (pv 0) xS (λ_ _=>rfl)) (pv 7) (λ_ _=>rfl)) (xR (pv 1) (xR (pv 2) (xR (xi (xh rfl) (pv 5) (pv 7) (λ_ _=>rfl)) (xR (pv 4) xW rfl) rfl) rfl) rfl) rfl) rfl))))) (xU (xu (xq qi))) xr)))⟩
  let B6:Bk Y ((af wH).drop 4):=⟨_,(xU (xl (qP PassesOwn.never rfl (wV rfl T.aU (xP (xR (xf (xg rfl) (by rfl) T.aJ PySem.boot_len (xP (xR (pv 5) xW rfl))) xW rfl))) (xX (i:=7) nd rfl rfl) B5.ps) B4.bl))⟩
  let B7:Bk Y ((af wH).drop 3):=⟨_,(xU (xl (xx (@PW.pt _ _ _ (qM (wN (wQ (xf (wL) (by rfl) T.aI zh (xP (xR (pv 5) (xR (qI (v:=V.ty "list") rfl T.cK yD rfl) xW rfl) rfl))))) (qM (xp gu (xf (xg rfl) (by rfl) T.aJ PySem.boot_len (xP (xR (pv 5) xW rfl))) (xf (xg rfl) (by rfl) T.aJ PySem.boot_len (xP (xR (xi (xo rfl) (pv 0) xS (λ_ _=>rfl)) xW rfl))) (av _)) (wx (wN (wQ (xf (wL) (by rfl) T.aI zh (xP (xR (pv 6) (xR (qI (v:=V.ty "list") rfl T.cK yD rfl) xW rfl) rfl))))))))) (xU (xu (xq qi))) xr) B6.bl))⟩
  let B8:Bk Y ((af wH).drop 1):=⟨_,(xU (xl (xx (@PW.pt _ _ _ (qM (wN (wQ (xf (wL) (by rfl) T.aI zh (xP (xR (pv 3) (xR (qI (v:=V.ty "tuple") rfl T.bI zy rfl) xW rfl) rfl))))) (wx (xp gu (xf (xg rfl) (by rfl) T.aJ PySem.boot_len (xP (xR (pv 3) xW rfl))) xS (av _))))) (xU (xu (xq qi))) xr) (xl (wG (pv 3) (wE (n:=2) rfl rfl (xY (xX (i:=5) nd rfl rfl) (xY (xX (i:=6) nd rfl rfl) wD)))) B7.bl)))⟩
  refine ⟨_,(xU (xl (xk (i:=4) nd rfl rfl (wS (xP (xR (xm fh (xw (xP (xR xS xW rfl))) (xf (xg rfl) (by rfl) T.aJ PySem.boot_len (xP (xR (xi (xo rfl) (pv 0) xS (λ_ _=>rfl)) xW rfl)))) (xR (wc (own:=["_law_load"]) (caps:=[]) rfl (show aD ["_law_load"] [] ["_law_book_here", "_law_loads", "_law_wants", "_law_plan_here", "_law_state", "_law_rows", "_law_told", "_law_k"] (aj wH) _ from L2.b8) (wZ rfl (pv 1)) (λ_ _ _ _=>(xX (i:=0) (show List.Nodup (["_law_load"]:List Str) from by decide +kernel) rfl rfl)) (λ_ _ _ _=>wP) (λ_ _ _ _=>(xi (xo rfl) (pv 0) xS (λ_ _=>rfl)))) (xR (wc (own:=["_law_want"]) (caps:=[]) rfl (show aD ["_law_want"] [] ["_law_book_here", "_law_loads", "_law_wants", "_law_plan_here", "_law_state", "_law_rows", "_law_told", "_law_k"] (aj wH) _ from L2.b8) (wZ rfl (pv 2)) (λ_ _ _ _=>(xX (i:=0) (show List.Nodup (["_law_want"]:List Str) from by decide +kernel) rfl rfl)) (λ_ _ _ _=>wP) (λ_ _ _ _=>(xi (xo rfl) (pv 0) xS (λ_ _=>rfl)))) xW rfl) rfl) rfl)))) B8.bl)),?_⟩;have line:=bf;have sX:=gd.eB;rw [zA] at sX;have rl:(aa.map V.int).length=aa.length:=zA _;have uW:(ls.map (·.2)).length=ls.length:=zA _;have ud:(ws.map (·.2)).length=ws.length:=zA _;have K9:(∀ p lr lt xs ts,v=.ref p->aV H p lr lt xs ts->gR ps.length ls.length ws.length xs ts->bV aa (ps.map (·.2)) (ls.map (·.2)) (ws.map (·.2)) (xs.map (·.r)) (ts.map (·.2))=none)->∀ H',ay H H'->Q .bF H':=λf H' s=>by
   cases ef:ck H ps.length ls.length ws.length v with
   | false=>exact q0 ef H' s
   | true=>
    obtain ⟨p,lr,lt,xs,ts,e,hp,ok⟩:=j8 ef eB sX bD bX;have z:=q1 p lr lt xs ts e hp ok H' s;rwa [f p lr lt xs ts e hp ok] at z
  have pS:(∀ p lr lt xs ts,v=.ref p->aV H p lr lt xs ts->gR ps.length ls.length ws.length xs ts->False)->∀ H',ay H H'->Q .bF H':=λf=>K9 λp lr lt xs ts e hp ok=>(f p lr lt xs ts e hp ok).elim;refine ⟨by show 1<=sizeLine;omega,λz1 gA=>(zr rfl (bH ((hb.same (xT gA)).book) rfl ⟨tr,zr rfl ⟨.inr (aX.of (hb.same (xT gA)).aa),z1,aG rfl rfl ⟨xQ,by rw [rl];omega,by rw [rl];omega,by rw [rl,yA];show 1 * _<=_;omega,λlb kK=>?_⟩⟩⟩))⟩;rw [rl,yA,kR];have s1:=(xT (o:=HO.lst [V.int 0]) gA).trans (xT (o:=HO.lst ((List.replicate aa.length (0:Int)).map V.int)) kK);have kb1:upd (upd H z1 (HO.lst [V.int 0])) lb (HO.lst ((List.replicate aa.length (0:Int)).map V.int)) lb=some (.lst ((List.replicate aa.length (0:Int)).map V.int)):=xQ;have flb:H lb=none:=qq (xT gA) kK;generalize upd (upd H z1 (HO.lst [V.int 0])) lb (HO.lst ((List.replicate aa.length (0:Int)).map V.int))=H1 at s1 kb1 ⊢;refine (zr rfl ⟨ll,rfl,⟨_,aB.of (s1 _ _ hl.l)⟩,?_⟩);refine (let W33:IC:=λi τ acc H5=>(∃ t0,τ=[t0])/\acc=((ls.take i).map λa=>a.2.m).map V.int/\H1=H5;wT (K:=K) (a:=ll) (xs:=ls.map λa=>V.ref a.1) W33 ⟨⟨_,rfl⟩,rfl,rfl⟩ (by rw [zA];omega) ?_ ?_ ?_)
  ·rintro i τ acc H5 ⟨_,rfl,rfl⟩;exact ⟨by rw [zA,zA,zR];omega,aB.of (s1 _ _ hl.l)⟩
  ·rintro i v τ acc H5 C hv ⟨⟨t0,rfl⟩,rfl,rfl⟩ hC;obtain ⟨x,hx,rfl⟩:=wF hv;refine (zr rfl (bH (s1 _ _ (hl.each x (zC hx))) rfl (hC _ _ _ ⟨⟨_,rfl⟩,?_,rfl⟩)));rw [xv hx,zB,zB];rfl
  rintro τ acc H5 ⟨⟨t0,rfl⟩,rfl,rfl⟩ lr nQ;rw [zA,zd];have sr:=xT (o:=HO.lst ((ls.map λa=>a.2.m).map V.int)) nQ;have Zq:upd H1 lr (HO.lst ((ls.map λa=>a.2.m).map V.int)) lr=some (.lst ((ls.map λa=>a.2.m).map V.int)):=xQ;have LX:H lr=none:=qq s1 nQ;have YY:=xV kb1 nQ;have kb2:=sr _ _ kb1;have s2:=s1.trans sr;generalize upd H1 lr _=H2 at s2 kb2 Zq ⊢;refine (zr rfl ⟨lw,rfl,⟨_,aB.of (s2 _ _ hw.l)⟩,?_⟩);refine (let W34:IC:=λi τ acc H5=>(∃ t0,τ=[t0])/\acc=((ws.take i).map λa=>a.2.m).map V.int/\H2=H5;wT (K:=K) (a:=lw) (xs:=ws.map λa=>V.ref a.1) W34 ⟨⟨_,rfl⟩,rfl,rfl⟩ (by rw [zA];omega) ?_ ?_ ?_)
  ·rintro i τ acc H5 ⟨_,rfl,rfl⟩;exact ⟨by rw [zA,zA,zR];omega,aB.of (s2 _ _ hw.l)⟩
  ·rintro i v τ acc H5 C hv ⟨⟨t0,rfl⟩,rfl,rfl⟩ hC;obtain ⟨x,hx,rfl⟩:=wF hv;refine (zr rfl (bH (s2 _ _ (hw.each x (zC hx))) rfl (hC _ _ _ ⟨⟨_,rfl⟩,?_,rfl⟩)));rw [xv hx,zB,zB];rfl
  rintro τ acc H5 ⟨⟨t0,rfl⟩,rfl,rfl⟩ lk mG;rw [zA,zd];have sk:=xT (o:=HO.lst ((ws.map λa=>a.2.m).map V.int)) mG;have kk1:upd H2 lk (HO.lst ((ws.map λa=>a.2.m).map V.int)) lk=some (.lst ((ws.map λa=>a.2.m).map V.int)):=xQ;have LY:H lk=none:=qq s2 mG;have YZ:=xV kb2 mG;have YO:=xV Zq mG;have kb3:=sk _ _ kb2;have kr3:=sk _ _ Zq;have s3:=s2.trans sk;generalize upd H2 lk _=H3 at s3 kb3 kr3 kk1 ⊢;refine ⟨by show 3<=sizeLine;omega,λst lT=>?_⟩;have s4:=xT (o:=HO.tup [V.ref lb,V.ref lr,V.ref lk]) lT;have c0:dR H st lb lr lk (List.replicate aa.length 0) ((ls.map (·.2)).map (·.m)) ((ws.map (·.2)).map (·.m)) (upd H3 st (HO.tup [V.ref lb,V.ref lr,V.ref lk])):=⟨s3.trans s4,xQ,s4 _ _ kb3,by rw [fq];exact s4 _ _ kr3,by rw [fq];exact s4 _ _ kk1,flb,LX,LY,YY,YZ,YO⟩;generalize upd H3 st _=H4 at c0 ⊢;have r0:b9 (ls.map (·.2)) (·.bg) (·.k) [] [] ((ls.map (·.2)).map (·.m)):=⟨zA _,λk hk=>by show _=_ - 0 - 0;omega⟩;have k0:b9 (ws.map (·.2)) (·.cm) (·.j) [] [] ((ws.map (·.2)).map (·.m)):=⟨zA _,λk hk=>by show _=_ - 0 - 0;omega⟩;rcases dt.way with ⟨l,xs,rfl,kl,_,e1,ex⟩ | ⟨l,xs,rfl,kl,_,e1,ex⟩ | ⟨t,ht,_,n1,_,e1⟩
  ·refine (zr rfl ⟨_, "list", "tuple", rfl,wt (c0.s _ _ kl),.inr (.inr (.inr rfl)),zr rfl (ak rfl (pS (λp lr lt xs ts e hp ok=>?_) _ c0.s))⟩);cases e;rw [hp.p] at kl;cases kl
  rotate_left
  ·refine (zr rfl ⟨_,t, "tuple", rfl,qB c0.s ht,.inr (.inr (.inr rfl)),zr rfl (ak (by rw [n1];rfl) (pS (λp lr lt xs ts e hp ok=>?_) _ c0.s))⟩);rw [e,wz hp.p] at ht;cases ht;cases n1
  refine (zr rfl ⟨_, "tuple", "tuple", rfl,wz (c0.s _ _ kl),.inr (.inr (.inr rfl)),zr rfl (aA rfl (zr rfl ⟨l,zr rfl ⟨.inr (aX.of (c0.s _ _ kl)),rfl,zr rfl ?_⟩⟩))⟩);by_cases e2:xs.length=2
  rotate_left
  ·refine ak ?_ (pS (λp lr lt xs ts e hp ok=>?_) _ c0.s)
   ·simp;omega
   ·cases e;rw [hp.p] at kl;cases kl;exact e2 rfl
  obtain ⟨x,y,rfl⟩:=OG e2;have dx:=ex x (by simp);have dy:=ex y (by simp);refine aA rfl (zr rfl (JN (c0.s _ _ kl) ?_));have vx:∀ p lr lt xs (ts:List (Addr×T3)),V.ref l=.ref p->aV H p lr lt xs ts->x=.ref lr/\y=.ref lt:=λp lr lt xs ts e hp=>by
   cases e;have z:=hp.p;rw [kl] at z;cases z;exact ⟨rfl,rfl⟩
  rcases dx.way with ⟨la,us,rfl,ka,e3,_,eu⟩ | ⟨la,us,rfl,ka,e3,_,eu⟩ | ⟨t,ht,n1,_,e3,_⟩
  rotate_left
  ·refine (zr rfl ⟨_, "tuple", "list", rfl,wz (c0.s _ _ ka),.inr (.inr (.inl rfl)),zr rfl (ak rfl (ak rfl (pS (λp lr lt xs ts e hp ok=>?_) _ c0.s)))⟩);have z:=(vx p lr lt xs ts e hp).1;cases z;rw [hp.lr] at ka;cases ka
  ·refine (zr rfl ⟨_,t, "list", rfl,qB c0.s ht,.inr (.inr (.inl rfl)),zr rfl (ak (by rw [n1];rfl) (ak rfl (pS (λp lr lt xs ts e hp ok=>?_) _ c0.s)))⟩);rw [(vx p lr lt xs ts e hp).1,wt hp.lr] at ht;cases ht;cases n1
  have ux:∀ p lr lt xs (ts:List (Addr×T3)),V.ref l=.ref p->aV H p lr lt xs ts->us=xs.map λx=>V.ref x.a:=λp lr lt xs ts e hp=>by
   have z:=(vx p lr lt xs ts e hp).1;cases z;have k:=hp.lr;rw [ka] at k;injection (Option.some.inj k)
  refine (zr rfl ⟨_, "list", "list", rfl,wt (c0.s _ _ ka),.inr (.inr (.inl rfl)),zr rfl (aA rfl (zr rfl ⟨la,zr rfl ⟨.inl (aB.of (c0.s _ _ ka)),zr rfl (bH (c0.s _ _ hb.book) rfl ⟨tm,zr rfl ⟨.inr (aX.of (c0.s _ _ hb.meets)),rfl,zr rfl ?_⟩⟩)⟩⟩))⟩);by_cases c1:us.length=ps.length
  rotate_left
  ·refine ak ?_ (ak rfl (pS (λp lr lt xs ts e hp ok=>c1 ?_) _ c0.s))
   ·rw [zA];simp;omega
   ·rw [ux p lr lt xs ts e hp,zA,ok.n]
  refine aA (by rw [zA];simp;omega) ?_;rcases dy.way with ⟨lc,ys,rfl,kc,e4,_,ey⟩ | ⟨lc,ys,rfl,kc,e4,_,ey⟩ | ⟨t,ht,n1,_,e4,_⟩
  rotate_left
  ·refine (zr rfl ⟨_, "tuple", "list", rfl,wz (c0.s _ _ kc),.inr (.inr (.inl rfl)),zr rfl (ak rfl (pS (λp lr lt xs ts e hp ok=>?_) _ c0.s))⟩);have z:=(vx p lr lt xs ts e hp).2;cases z;rw [hp.ls] at kc;cases kc
  ·refine (zr rfl ⟨_,t, "list", rfl,qB c0.s ht,.inr (.inr (.inl rfl)),zr rfl (ak (by rw [n1];rfl) (pS (λp lr lt xs ts e hp ok=>?_) _ c0.s))⟩);rw [(vx p lr lt xs ts e hp).2,wt hp.ls] at ht;cases ht;cases n1
  have uy:∀ p lr lt xs (ts:List (Addr×T3)),V.ref l=.ref p->aV H p lr lt xs ts->ys=ts.map λx=>V.ref x.1:=λp lr lt xs ts e hp=>by
   have z:=(vx p lr lt xs ts e hp).2;cases z;have k:=hp.ls;rw [kc] at k;injection (Option.some.inj k)
  have ly:=eB _ _ ys e1 e4;refine (zr rfl ⟨_, "list", "list", rfl,wt (c0.s _ _ kc),.inr (.inr (.inl rfl)),zr rfl (aA rfl ?_)⟩);refine (zr rfl ⟨la,zr rfl ⟨.inl (aB.of (c0.s _ _ ka)),zr rfl ⟨by omega,by omega,?_⟩⟩⟩);have m9:∀ s∈ls.map (·.2),s.m<=99:=λs hs=>by obtain ⟨a,ha,rfl⟩:=zX.mp hs;exact Y8 a ha
  have w9:∀ s∈ws.map (·.2),s.m<=99:=λs hs=>by obtain ⟨a,ha,rfl⟩:=zX.mp hs;exact XW a ha
  refine (let W35:IV:=λi σ H6=>(∃ v7,σ=[some (.ref b),some (.ref ll),some (.ref lw),some (.ref l),some (.ref st),some (.ref la),some (.ref lc),v7])/\∃ (xs:List RA) (bs rs ks:List Int),us.take i=xs.map (λx=>V.ref x.a)/\(∀ x∈xs,RA.At H x/\x.r.ok ls.length ws.length)/\dR H st lb lr lk bs rs ks H6/\bs.length=aa.length/\fW aa (ls.map (·.2)) (ws.map (·.2)) (((ps.map (·.2)).take i).zip (xs.map (·.r))) bs/\b9 (ls.map (·.2)) (·.bg) (·.k) (xs.map (·.r)) [] rs/\b9 (ws.map (·.2)) (·.cm) (·.j) (xs.map (·.r)) [] ks;wq (lo:=0) (n:=us.length) W35 ⟨⟨_,rfl⟩,[],_,lV rfl ⟨nofun,c0,yb,fW.nil,r0,k0⟩⟩ ?_ ?_)
  ·rintro i σ H6 hi ⟨⟨v7,rfl⟩,xs,bs,rs,ks,MU,J5,c,TR,pre,rr,rk⟩;obtain ⟨m,hm⟩:∃ m,ps[i]?=some m:=⟨_,zF (by omega)⟩;obtain ⟨u,hu⟩:∃ u,us[i]?=some u:=⟨_,zF hi⟩;have mm:=zC hm;obtain ⟨a1,a2,a3,_⟩:=gd.at mm;have lx:xs.length=i:=by have:=congrArg List.length MU;rw [zA,zR] at this;omega
   have am:bQ (ps.map λa=>V.ref a.1) (0 + (i:Int))=some (V.ref m.1):=by rw [yB];exact wA (by rw [zD,hm];rfl)
   have au:bQ us (0 + (i:Int))=some u:=by rw [yB];exact wA hu
   have Jd:=rr.l;have Lk:=rk.l;rw [uW] at Jd;rw [ud] at Lk;refine (zr rfl (bH (c.s _ _ hb.book) rfl (zr rfl (bH (c.s _ _ hb.book) rfl (zr rfl (bH (c.s _ _ hb.meets) am (zr rfl (zr rfl (zr rfl (zr rfl (bL (c.s _ _ ka) au (zr rfl ?_))))))))))));refine ⟨tr,m.1,ll,lw,u,st,lb,lr,lk,aa,m.2,ls,ws,bs,rs,ks,H,rfl,c,hb.aa,hb.rows m mm,⟨a1,a2,a3⟩,nF,TR,Jd,Lk,hl,hw,bD,bX,eu u (zC hu),λf H7 s7=>(zr rfl (ak rfl (K9 (λp JR lt' gU lZ e hp ok=>?_) _ s7))),λx cs aL aO ev hx hg H7 c7=>(zr rfl (aA rfl ?_))⟩
   ·have eus:=ux p JR lt' gU lZ e hp;rw [eus] at hu hi MU;rw [zA] at hi;obtain ⟨x',u0,rfl⟩:=wF hu;have mx':=zC u0;have er:xs.map (·.r)=(gU.map (·.r)).take i:=by
     rw [<-xN];exact dW (by rw [<-MU,xN]) (λx hx=>(J5 x hx).1) λx hx=>hp.rows x (yt hx)
    rw [er] at pre;refine vY m9 w9 (λx hx=>?_) (λt ht=>?_) (oH (qC hm) (show (gU.map (·.r))[i]?=some x'.r by rw [zD,u0];rfl)) pre (f x' rfl (hp.rows x' mx'))
    ·obtain ⟨y,hy,rfl⟩:=zX.mp hx;exact Tf (ok.rows y hy)
    ·obtain ⟨y,hy,rfl⟩:=zX.mp ht;exact (ok.ones y hy).m
   ·subst ev;obtain ⟨g1,g2,g3,g4,rfl,rfl⟩:=sH hg;rw [uW,ud] at g1;refine ⟨⟨_,rfl⟩,xs++[x],cs,_,_,by rw [xv hu,MU,zB];rfl,λy hy=>?_,c7,by rw [jo g3,TR],?_,by rw [zB];exact rr.row x.r,by rw [zB];exact rk.row x.r⟩
    ·rcases zV.mp hy with hy | hy
     ·exact J5 y hy
     ·cases zE.mp hy;exact ⟨hx,g1⟩
    ·rw [zB,zI,zg,rY (qC hm) (by rw [zA,lx]) (by rw [zA];omega)];exact pre.snoc g2 g3 g4
  rintro σ H6 ⟨⟨v7,rfl⟩,xs,bs,rs,ks,MU,J5,c,TR,pre,rr,rk⟩;rw [zd] at MU;have lx:xs.length=ps.length:=by rw [<-c1,MU,zA]
  have exr:∀ p lr lt gU (ts:List (Addr×T3)),V.ref l=.ref p->aV H p lr lt gU ts->gU.map (·.r)=xs.map (·.r):=λp lr lt gU ts e hp=>dW (by rw [<-ux p lr lt gU ts e hp,MU]) hp.rows λx hx=>(J5 x hx).1;clear ex eu dx dy dt;refine (zr rfl ⟨lc,zr rfl ⟨.inl (aB.of (c.s _ _ kc)),zr rfl ⟨by omega,by omega,?_⟩⟩⟩);refine (let W36:IV:=λi σ H6=>(∃ v7,σ=[some (.ref b),some (.ref ll),some (.ref lw),some (.ref l),some (.ref st),some (.ref la),some (.ref lc),v7])/\∃ (ts:List (Addr×T3)) (rs ks:List Int),ys.take i=ts.map (λx=>V.ref x.1)/\(∀ t∈ts,H t.1=some (.tup [.int t.2.k,.int t.2.j,.int t.2.m])/\t.2.ok ls.length ws.length/\lO (ls.map (·.2)) (ws.map (·.2)) t.2=true)/\(ts.map λx=>[x.2.k,x.2.j]).Nodup/\dR H st lb lr lk bs rs ks H6/\b9 (ls.map (·.2)) (·.bg) (·.k) (xs.map (·.r)) (ts.map (·.2)) rs/\b9 (ws.map (·.2)) (·.cm) (·.j) (xs.map (·.r)) (ts.map (·.2)) ks;wq (lo:=0) (n:=ys.length) W36 ⟨⟨_,rfl⟩,[],rs,ks,rfl,nofun,.nil,c,rr,rk⟩ ?_ ?_)
  ·rintro i σ H6 hi ⟨⟨v7,rfl⟩,ts,rs,ks,Mz,OI,nd,c,rr,rk⟩;obtain ⟨u,hu⟩:∃ u,ys[i]?=some u:=⟨_,zF hi⟩;have au:bQ ys (0 + (i:Int))=some u:=by rw [yB];exact wA hu
   have lti:ts.length=i:=by have:=congrArg List.length Mz;rw [zA,zR] at this;omega
   have Jd:=rr.l;have Lk:=rk.l;rw [uW] at Jd;rw [ud] at Lk;refine (zr rfl (zr rfl (zr rfl (zr rfl (bL (c.s _ _ kc) au (zr rfl ?_))))));refine ⟨ll,lw,u,st,lb,lr,lk,ls,ws,bs,rs,ks,H,rfl,c,Jd,Lk,hl,hw,bD,bX,(ey u (zC hu)).le,λf H7 s7=>(zr rfl (ak rfl (K9 (λp JR lt' gU lZ e hp ok=>?_) _ s7))),λt aL aO ev ht hg H7 c7=>(zr rfl (aA rfl ?_))⟩
   ·rw [uy p JR lt' gU lZ e hp] at hu;obtain ⟨t',Wk,rfl⟩:=wF hu;have mt:=zC Wk;exact sS (t:=t'.2) (xF mt) (by rw [uW,ud];exact ok.ones t' mt) (f t' rfl (hp.ones t' mt))
   subst ev;obtain ⟨g1,g2,rfl,rfl⟩:=pR hg;rw [uW,ud] at g1;have c:=c7;have kt:=c.s _ _ ht;refine (zr rfl (zr rfl (bL (c.s _ _ kc) au ⟨2,rfl,t.1,zr rfl ⟨aX.of kt,(by show ¬ (HT.bY 3 0 none=0/\HT.bY 3 3 (some 2)=3);decide),λp2 Z5=>?_⟩⟩)));have s8:=xT (o:=HO.tup [V.int t.2.k,V.int t.2.j]) Z5;have OX:upd H7 p2 (HO.tup [V.int t.2.k,V.int t.2.j]) p2=some (.tup ([t.2.k,t.2.j].map V.int)):=xQ;have c8:=c.same s8;refine (zr rfl (zr rfl (zr rfl ⟨lc,zr rfl ⟨aB.of (c8.s _ _ kc),λq hq=>?_⟩⟩)));rw [yB,Mg,Mz,show aN [V.int t.2.k,V.int t.2.j,V.int t.2.m] none (some 2)=[V.int t.2.k,V.int t.2.j] from rfl];have s9:ay (upd H7 p2 (HO.tup [V.int t.2.k,V.int t.2.j])) (upd (upd H7 p2 (HO.tup [V.int t.2.k,V.int t.2.j])) q (HO.lst (ts.map λx=>V.ref x.1))):=xT hq;have kq:upd (upd H7 p2 (HO.tup [V.int t.2.k,V.int t.2.j])) q (HO.lst (ts.map λx=>V.ref x.1)) q=some (.lst (ts.map λx=>V.ref x.1)):=xQ;have c9:=c8.same s9;have OX:=s9 _ _ OX;generalize upd (upd H7 p2 (HO.tup [V.int t.2.k,V.int t.2.j])) q (HO.lst (ts.map λx=>V.ref x.1))=H9 at kq c9 OX ⊢;refine ⟨q,rfl,⟨_,aB.of kq⟩,?_⟩;refine (let W37:IC:=λi τ acc H5=>∃ qs:List (Addr×List Int),(∃ t0,τ=[t0])/\acc=qs.map (λx=>V.ref x.1)/\qs.map (·.2)=(ts.take i).map (λx=>[x.2.k,x.2.j])/\(∀ x∈qs,H5 x.1=some (.tup (x.2.map V.int)))/\ay H9 H5;wT (K:=K) (a:=q) (xs:=ts.map λx=>V.ref x.1) W37 ⟨[],⟨_,rfl⟩,rfl,rfl,nofun,ay.refl _⟩ (by rw [zA];omega) ?_ ?_ ?_)
   ·rintro j τ acc H5 ⟨qs,_,rfl,e,_,sm⟩;have e:=congrArg List.length e;rw [zA,zA,zR] at e;exact ⟨by rw [zA];omega,aB.of (sm _ _ kq)⟩
   ·rintro j v τ acc H5 C hv ⟨qs,⟨t0,rfl⟩,rfl,e,em,sm⟩ hC;obtain ⟨w0,Wi,rfl⟩:=wF hv;refine (zr rfl ⟨2,rfl,w0.1,zr rfl ⟨aX.of (sm _ _ (c9.s _ _ (OI w0 (zC Wi)).1)),(by show ¬ (HT.bY 3 0 none=0/\HT.bY 3 3 (some 2)=3);decide),λp3 hp3=>hC _ _ _ ⟨qs++[(p3,[w0.2.k,w0.2.j])],⟨_,rfl⟩,by rw [zB];rfl,by rw [zB,e,xv Wi,zB];rfl,λa ha=>?_,sm.trans (xT hp3)⟩⟩⟩);rcases zV.mp ha with ha | ha
    ·exact xT hp3 _ _ (em a ha)
    ·cases zE.mp ha;exact xQ
   rintro τ acc eX ⟨qs,⟨t0,rfl⟩,rfl,eq,em,sm⟩ lq Sb;rw [zA,zd] at eq;have sA:=sm.trans (xT (o:=HO.lst (qs.map λx=>V.ref x.1)) Sb);have kA:upd eX lq (HO.lst (qs.map λx=>V.ref x.1)) lq=some (.lst (qs.map λx=>V.ref x.1)):=xQ;have em:=λa ha=>xT (o:=HO.lst (qs.map λx=>V.ref x.1)) Sb _ _ (em a ha);generalize upd eX lq _=fX at sA kA em ⊢;have Ru:=c9.same sA;refine ⟨1,lq,qs.map λx=>(x.1,decide (x.2=[t.2.k,t.2.j])),by decide,rfl,by rw [zz];exact aB.of kA,λr Z2=>?_,zr rfl ?_⟩
   ·obtain ⟨x,hx,rfl⟩:=zX.mp Z2;exact Eqv.rows (f:=V.int) (λ_=>rfl) (λx y=>Oj x y) (.inr ⟨em x hx,sA _ _ OX⟩)
   have ean:(qs.map λx=>(x.1,decide (x.2=[t.2.k,t.2.j]))).any (·.2)=decide ([t.2.k,t.2.j]∈ts.map λx=>[x.2.k,x.2.j]):=by
    rw [<-eq,xG,List.any_eq_true,decide_eq_true_eq];constructor
    ·rintro ⟨r,Z2,e⟩;obtain ⟨x,hx,rfl⟩:=zX.mp Z2;exact zX.mpr ⟨x,hx,of_decide_eq_true e⟩
    ·intro h;obtain ⟨x,hx,e⟩:=zX.mp h;exact ⟨_,zX.mpr ⟨x,hx,rfl⟩,decide_eq_true e⟩
   rw [ean];by_cases dup:[t.2.k,t.2.j]∈ts.map λx=>[x.2.k,x.2.j]
   ·refine ak (decide_eq_true dup) (K9 (λp JR lt' gU lZ e hp ok=>fM λV4 _ _ _ _=>?_) _ Ru.s);have ey:=uy p JR lt' gU lZ e hp;rw [ey] at hu Mz;obtain ⟨t',Wk,et'⟩:=wF hu;have et:=cT (xs:=(lZ.take i)) (ys:=ts) (by rw [<-Mz,xN]) (λx hx=>hp.ones x (yt hx)) λx hx=>(OI x hx).1;have e1:=cT (xs:=[t']) (ys:=[t]) (by rw [zI,zI];exact congrArg (·::[]) et'.symm) (λx hx=>by rw [zE.mp hx];exact hp.ones t' (zC Wk)) λx hx=>by rw [zE.mp hx];exact ht
    have e1:t'.2=t.2:=by injection e1
    have sub:(((lZ.map (·.2)).map λx=>[x.k,x.j]).take (i + 1)).Nodup:=V4.sublist (List.take_sublist _ _);rw [<-xN,<- xN,xv Wk,zB,et,zB,xL] at sub;refine sub.2.2 [t.2.k,t.2.j] ?_ _ (zE.mpr rfl) (by show _=[t'.2.k,t'.2.j];rw [e1]);obtain ⟨w0,Wi,ew⟩:=zX.mp dup;exact zX.mpr ⟨w0.2,xF Wi,by rw [ew]⟩
   ·refine aA (decide_eq_false dup) ⟨⟨_,rfl⟩,ts++[t],_,_,by rw [xv hu,Mz,zB];rfl,λy hy=>?_,?_,Ru,by rw [zB];exact rr.one t.2 g1.k.1 (by rw [uW];exact g1.k.2),by rw [zB];exact rk.one t.2 g1.j.1 (by rw [ud];exact g1.j.2)⟩
    ·rcases zV.mp hy with hy | hy
     ·exact OI y hy
     ·cases zE.mp hy;exact ⟨ht,g1,g2⟩
    ·rw [zB,xL];exact ⟨nd,by simp,λa ha b hb e=>by rw [zI,zg,zE] at hb;rw [e,hb] at ha;exact dup ha⟩
  rintro σ H6 ⟨⟨v7,rfl⟩,ts,rs,ks,Mz,OI,nd,c,rr,rk⟩;rw [zd] at Mz;have eyr:∀ p lr lt gU (lZ:List (Addr×T3)),V.ref l=.ref p->aV H p lr lt gU lZ->lZ.map (·.2)=ts.map (·.2):=λp lr lt gU lZ e hp=>cT (by rw [<-uy p lr lt gU lZ e hp,Mz]) hp.ones λx hx=>(OI x hx).1;have we:=oK (aa:=aa) (ms:=ps.map (·.2)) (ls:=ls.map (·.2)) (ws:=ws.map (·.2)) (xs:=xs.map (·.r)) (ts:=ts.map (·.2)) (rs:=rs) (ks:=ks) (bs:=bs) (by rw [zA,zA,lx]) (λx hx=>by obtain ⟨y,hy,rfl⟩:=zX.mp hx;exact Tf (J5 y hy).2) (by rw [show (ps.map (·.2)).take us.length=ps.map (·.2) from yY (by rw [zA];omega)] at pre;exact pre) rr rk (λt ht=>by obtain ⟨y,hy,rfl⟩:=zX.mp ht;exact (OI y hy).2.2) (by rw [zz];exact nd);have Jd:=rr.l;have Lk:=rk.l;rw [uW] at Jd;rw [ud] at Lk;refine ⟨by show 1<=sizeLine;omega,λz2 nO=>(zr rfl (bH ((c.same (xT nO)).st) rfl ⟨z2,lr,aG rfl rfl ⟨xQ,(c.same (xT nO)).r,by rw [zA];show 1 + _<=_;omega,λz3 hz3=>?_⟩⟩))⟩;have cA:=(c.same (xT (o:=HO.lst [V.int 0]) nO)).same (xT (o:=HO.lst ([V.int 0]++rs.map V.int)) hz3);have kz3:upd (upd H6 z2 (HO.lst [V.int 0])) z3 (HO.lst ([V.int 0]++rs.map V.int)) z3=some (.lst ([V.int 0]++rs.map V.int)):=xQ;generalize upd (upd H6 z2 (HO.lst [V.int 0])) z3 (HO.lst ([V.int 0]++rs.map V.int))=H7 at cA kz3 ⊢;refine (zr rfl (bH cA.st rfl ⟨z3,lk,aG rfl rfl ⟨kz3,cA.k,by rw [zU,zA,zA];show 1 + _ + _<=_;omega,λz4 hz4=>?_⟩⟩));have cB:=cA.same (xT (o:=HO.lst ([V.int 0]++rs.map V.int++ks.map V.int)) hz4);have kz4:upd H7 z4 (HO.lst ([V.int 0]++rs.map V.int++ks.map V.int)) z4=some (.lst ((0::rs++ks).map V.int)):=by rw [xQ,zB,zI];rfl
  generalize upd H7 z4 _=H8 at cB kz4 ⊢;refine ⟨z4,0::rs++ks,rfl,aB.of kz4,by simp,λM mM lM=>(aG rfl rfl (zr rfl ?_))⟩;by_cases m0:M < 0
  ·refine ak (decide_eq_true m0) (K9 (λp JR lt' gU lZ e hp ok=>?_) _ cB.s);rw [exr p JR lt' gU lZ e hp,eyr p JR lt' gU lZ e hp,we,if_neg];rintro ⟨g1,g2⟩;rw [zP] at mM;rcases zG.mp mM with rfl | mM
   ·omega
   ·rcases zV.mp mM with h | h
    ·have:=g1 M h;omega
    ·have:=g2 M h;omega
  refine aA (decide_eq_false m0) ?_;have pos:(∀ x∈rs,0<=x)/\∀ x∈ks,0<=x:=⟨λx hx=>by have:=lM x (zV.mpr (.inl (zc _ hx)));omega,λx hx=>by have:=lM x (zV.mpr (.inr hx));omega⟩;rw [if_pos pos] at we;have q1:=q1 l la lc xs ts rfl ⟨kl,by rw [ka,MU],by rw [kc,Mz],λx hx=>(J5 x hx).1,λt ht=>(OI t ht).1⟩ ⟨lx,sX,bD,bX,by have:=congrArg List.length Mz;rw [zA] at this;omega,λx hx=>(J5 x hx).2,λt ht=>(OI t ht).2.1⟩;rw [we,fq] at q1;refine (zr rfl ⟨lw,rfl,⟨_,aB.of (cB.s _ _ hw.l)⟩,?_⟩);refine (let W38:IC:=λi τ acc H5=>(∃ t0,τ=[t0])/\acc=((ws.take i).map λa=>a.2.m).map V.int/\H8=H5;wT (K:=K) (a:=lw) (xs:=ws.map λa=>V.ref a.1) W38 ⟨⟨_,rfl⟩,rfl,rfl⟩ (by rw [zA];omega) ?_ ?_ ?_)
  ·rintro i τ acc H5 ⟨_,rfl,rfl⟩;exact ⟨by rw [zA,zA,zR];omega,aB.of (cB.s _ _ hw.l)⟩
  ·rintro i v τ acc H5 C hv ⟨⟨t0,rfl⟩,rfl,rfl⟩ hC;obtain ⟨x,hx,rfl⟩:=wF hv;refine (zr rfl (bH (cB.s _ _ (hw.each x (zC hx))) rfl (hC _ _ _ ⟨⟨_,rfl⟩,?_,rfl⟩)));rw [xv hx,zB,zB];rfl
  rintro τ acc H9 ⟨⟨t0,rfl⟩,rfl,rfl⟩ lz hlz;rw [zA,zd];have cC:=cB.same (xT (o:=HO.lst ((ws.map λa=>a.2.m).map V.int)) hlz);refine ⟨lz,zr rfl ⟨aB.of xQ,zr rfl (bH cC.st rfl ⟨lk,zr rfl ⟨aB.of cC.k,aG rfl rfl ?_⟩⟩)⟩⟩;exact q1 _ cC.s
theorem C5:aF ["_law_purse_here", "_law_old", "_law_some"] ["_law_purse_here", "_law_old"] (aj qd):=L2.bw
theorem C8 (T:Tx K mg a):aW P w K mg base dQ 2 a.Al a.AN ["_law_purse_here", "_law_old"] (vP):=by
 have Aa:=wO P w base T;refine T.Ay.ok C5 (λvs H Q E h=>?_) (λbO A outer s H vs Q E hr h=>?_)
 ·obtain ⟨_,_,rfl,_⟩:=h;rfl
 ·have nd:=C5.nd;have hu:=hr.units;obtain ⟨p,x,rfl,hp,q⟩:=h;refine bP ?_;intro Y
  let B0:Bk Y ((af qd).drop 1):=⟨_,(xU (xu (xq (xi (xh rfl) (pv 2) (xZ Aa (hr.mono (by decide)) rfl T.Ab T.Ac T.Ae .nil aq (xP (xR (pv 0) (xR xS xW rfl) rfl))) (λ_ _=>rfl)))))⟩
  refine ⟨_,(xU (xl (@xk _ _ 2 _ _ _ _ nd rfl rfl (xw (xP (xR (xm wR (pv 1) xS) (xR (xm wW (pv 1) xS) (xR xS (xR xS (xR xS (xR qL (xR qi (xR KZ (xR (xm gK xS xS) (xR (xw (xP (xR (pv 1) xW rfl))) (xR K2 xW rfl) rfl) rfl) rfl) rfl) rfl) rfl) rfl) rfl) rfl) rfl))) rfl rfl) B0.bl)),?_⟩;have line:=bf;refine (zr rfl (aG rfl rfl (zr rfl (aG rfl rfl (aG rfl rfl ⟨⟨by decide,by decide,by decide⟩,?_⟩)))));refine (zr rfl ⟨by show 1<=sizeLine;omega,λl1 h1=>?_⟩);have n1:=h1;have f1:=hp.ne h1;have g1:=(Go.refl hp).new (o:=HO.lst [V.int x]) h1;have k1:upd H l1 (HO.lst [V.int x]) l1=some (.lst [V.int x]):=xQ;generalize upd H l1 _=H1 at g1 k1 ⊢;intro l2 h2;have f2:=g1.2.ne h2;have n2:H l2=none:=g1.free h2 f2;have s2:=xT (o:=HO.dK []) h2;have k2:upd H1 l2 (HO.dK []) l2=some (.dK []):=xQ;have g2:=g1.same s2;generalize upd H1 l2 _=H2 at s2 k2 g2 ⊢;refine ⟨by show 11<=sizeLine;omega,λl3 h3=>?_⟩;have f3:=g2.2.ne h3;have s3:=xT (o:=HO.lst [V.int (x + 1),V.int (x - 1),V.int 0,V.int 1,V.int 99,V.bl true,V.bF,V.str (Str.ofString "1"),V.int (10 ^ Int.toNat 30),V.ref l1,V.ref l2]) h3;have k3:upd H2 l3 (HO.lst [V.int (x + 1),V.int (x - 1),V.int 0,V.int 1,V.int 99,V.bl true,V.bF,V.str (Str.ofString "1"),V.int (10 ^ Int.toNat 30),V.ref l1,V.ref l2]) l3=some (.lst [V.int (x + 1),V.int (x - 1),V.int 0,V.int 1,V.int 99,V.bl true,V.bF,V.str (Str.ofString "1"),V.int (10 ^ Int.toNat 30),V.ref l1,V.ref l2]):=xQ;have g3:=g2.same s3;generalize upd H2 l3 _=H3 at s3 k3 g3 ⊢;refine (zr rfl (zr rfl ⟨p,zr rfl ⟨by decide,by decide,g3.2,λe H4 e0 e1 g4=>?_⟩⟩));have j1:=g4.1 _ _ f1 (s3 _ _ (s2 _ _ k1));have j2:=g4.1 _ _ f2 (s3 _ _ k2);have j3:=g4.1 _ _ f3 k3;obtain ⟨v,hv,dv⟩:∃ v,bQ [V.int (x + 1),V.int (x - 1),V.int 0,V.int 1,V.int 99,V.bl true,V.bF,V.str (Str.ofString "1"),V.int (10 ^ Int.toNat 30),V.ref l1,V.ref l2] e=some v/\cz H H4 v:=by
   obtain rfl | rfl | rfl | rfl | rfl | rfl | rfl | rfl | rfl | rfl | rfl:e=0\/e=1\/e=2\/e=3\/e=4\/e=5\/e=6\/e=7\/e=8\/e=9\/e=10:=by omega
   ·exact (zr rfl (cz.flat (t := "int") λ_=>rfl))
   ·exact (zr rfl (cz.flat (t := "int") λ_=>rfl))
   ·exact (zr rfl (cz.flat (t := "int") λ_=>rfl))
   ·exact (zr rfl (cz.flat (t := "int") λ_=>rfl))
   ·exact (zr rfl (cz.flat (t := "int") λ_=>rfl))
   ·exact (zr rfl (cz.flat (t := "bool") λ_=>rfl))
   ·exact (zr rfl (cz.flat (t := "NoneType") λ_=>rfl))
   ·exact (zr rfl (cz.flat (t := "str") λ_=>rfl))
   ·exact (zr rfl (cz.flat (t := "int") λ_=>rfl))
   ·exact (zr rfl (.inr ⟨l1,rfl,n1,.inl ⟨x,j1⟩⟩))
   ·exact (zr rfl (.inr ⟨l2,rfl,n2,.inr j2⟩))
  exact ⟨l3,_,_,v,rfl,rfl,aB.of j3,hv,q _ _ (g3.trans g4) dv⟩
theorem Dq:aF ["_law_purse_here", "_law_rows", "_law_at", "_law_parts", "_law_place", "_law_inner", "_law_spot", "_law_row_here"] ["_law_purse_here", "_law_rows"] (aj wB):=L2.bw
theorem Fj (T:Tx K mg a):aW P w K mg base dQ 3 a.Aw a.AW ["_law_purse_here", "_law_rows"] (Nm):=by
 have Aa:=wO P w base T;have Ca:=C8 P w base T;refine T.AH.ok Dq (λvs H Q E h=>?_) (λbO A outer s H vs Q E hr h=>?_)
 ·obtain ⟨_,_,_,rfl,_⟩:=h;rfl
 ·have nd:=Dq.nd;have hu:=hr.units;obtain ⟨p,lr,xs,rfl,hp,Q6,Lv,n1,NU,bD,q⟩:=h;refine bP ?_;intro Y
  let B0:Bk Y ((af wB).drop 6):=⟨_,(xU (xu (xq (xm qS (xm qS (qQ (cQ rfl) (pv 1) qh (qX (pv 2))) (xw (xP (xR (pv 7) xW rfl)))) (qQ (cQ rfl) (pv 1) (qX (xm wR (pv 2) xS)) qh)))))⟩
  let B1:Bk Y (nb (af wB) 5):=⟨_,(xU (xu (xk (i:=7) nd rfl rfl (xi (xh rfl) (xw (xP (xR (pv 3) (xR (qQ (jA rfl) (pv 7) qh (qX xS)) (xR qi xW rfl) rfl) rfl))) (xZ Aa (hr.mono (by decide)) rfl T.Ab T.Ac T.Ae .nil aq (xP (xR (pv 0) (xR xS xW rfl) rfl))) (λ_ _=>rfl)))))⟩
  let B2:Bk Y ((af wB).drop 5):=⟨_,(xU (xl (xx (xp qA (xZ Aa (hr.mono (by decide)) rfl T.Ab T.Ac T.Ae .nil aq (xP (xR (pv 0) (xR xS xW rfl) rfl))) xS (av _)) B1.ps xr) B0.bl))⟩
  let B3:Bk Y (nb (af wB) 3):=⟨_,(xU (xu (wG (xZ Ca (hr.mono (by decide)) rfl T.Cw T.Cy T.Cz .nil aq (xP (xR (pv 0) (xR (xi (xh rfl) (pv 3) (pv 4) (λ_ _=>rfl)) xW rfl) rfl))) (wy (pv 3) (pv 4) wJ))))⟩
  let B4:Bk Y ((nb (ne (af wB) 3) 0).drop 2):=⟨_,(xU (xl (wG (xZ Ca (hr.mono (by decide)) rfl T.Cw T.Cy T.Cz .nil aq (xP (xR (pv 0) (xR (xi (xh rfl) (pv 5) (pv 6) (λ_ _=>rfl)) xW rfl) rfl))) (wy (pv 5) (pv 6) wJ)) (xu (wG (pv 5) (wy (pv 3) (pv 4) wJ)))))⟩
  let B5:Bk Y ((nb (ne (af wB) 3) 0).drop 1):=⟨_,(xU (xl (xk (i:=6) nd rfl rfl (xZ Aa (hr.mono (by decide)) rfl T.Ab T.Ac T.Ae .nil aq (xP (xR (pv 0) (xR (xf (xg rfl) (by rfl) T.aJ PySem.boot_len (xP (xR (pv 5) xW rfl))) xW rfl) rfl)))) B4.bl))⟩
  let B6:Bk Y (nb (ne (af wB) 3) 0):=⟨_,(xU (xl (xk (i:=5) nd rfl rfl (wK (qG rfl) (by rfl) T.cK yD (xP (xR (xi (xh rfl) (pv 3) (pv 4) (λ_ _=>rfl)) xW rfl)))) B5.bl))⟩
  let B7:Bk Y (ne (ne (af wB) 3) 0):=⟨_,(xU (xu (wG (xi (xh rfl) (xw (xP (xR (wK (wv) (by rfl) T.bI zy (xP (xR (xi (xh rfl) (pv 3) xS (λ_ _=>rfl)) xW rfl))) (xR (xm qS (xi (xh rfl) (pv 3) xS (λ_ _=>rfl)) (xw (xP (xR xS xW rfl)))) (xR qi xW rfl) rfl) rfl))) (xZ Aa (hr.mono (by decide)) rfl T.Ab T.Ac T.Ae .nil aq (xP (xR (pv 0) (xR xS xW rfl) rfl))) (λ_ _=>rfl)) (wy (pv 3) xS wJ))))⟩
  let B8:Bk Y (ne (af wB) 3):=⟨_,(xU (xu (xx (@PW.pt _ _ _ (dH (xp cu (pv 4) xS (av _)) (dc (xp (iz hu) (xi (xh rfl) (pv 3) (pv 4) (λ_ _=>rfl)) (xw qU) (av _))))) B6.ps B7.ps)))⟩
  let B9:Bk Y ((af wB).drop 3):=⟨_,(xU (xl (xx (xp cu (pv 4) xS (av _)) B3.ps B8.ps) (xl (xk (i:=7) nd rfl rfl (wK (wv) (by rfl) T.bI zy (xP (xR (pv 3) xW rfl)))) B2.bl)))⟩
  let OA:Bk Y ((af wB).drop 1):=⟨_,(xU (xl (xk (i:=3) nd rfl rfl (wK (qG rfl) (by rfl) T.cK yD (xP (xR (xi (xh rfl) (pv 1) (pv 2) (λ_ _=>rfl)) xW rfl)))) (xl (xk (i:=4) nd rfl rfl (xZ Aa (hr.mono (by decide)) rfl T.Ab T.Ac T.Ae .nil aq (xP (xR (pv 0) (xR xS xW rfl) rfl)))) B9.bl)))⟩
  refine ⟨_,(xU (xl (xk (i:=2) nd rfl rfl (xZ Aa (hr.mono (by decide)) rfl T.Ab T.Ac T.Ae .nil aq (xP (xR (pv 0) (xR (xf (xg rfl) (by rfl) T.aJ PySem.boot_len (xP (xR (pv 1) xW rfl))) xW rfl) rfl)))) OA.bl)),?_⟩;have line:=bf;have RN:=NU;refine (zr rfl (zr rfl ⟨lr,zr rfl ⟨.inl (aB.of Q6),p,zr rfl ⟨by rw [zA];omega,by rw [zA];omega,hp,λd1 H1 d10 WG g1=>?_⟩⟩⟩));rw [zA] at WG;obtain ⟨z,rfl⟩:=zm d10;obtain ⟨x,hx⟩:∃ x,xs[z]?=some x:=⟨_,zF (by omega)⟩;have mx:=zC hx;have az:bQ (xs.map λa=>V.ref a.a) (z:Int)=some (V.ref x.a):=wA (by rw [zD,hx];rfl);have nlr:lr≠p:=gI hp Q6 λa b c e=>by
   rcases xs with _ | ⟨y,_⟩ <;> cases e
  have kF:∀ {H':Hp},Go p H H'->H' lr=some (.lst (xs.map λa=>V.ref a.a)):=λg=>g.1 _ _ nlr Q6;have O0:∀ {H':Hp},Go p H H'->∀ y∈xs,RA.At H' y:=λg y hy=>⟨g.aS hp _ _ (Lv y hy).1.a,g.1 _ _ (Lv y hy).2.1 (Lv y hy).1.b,g.1 _ _ (Lv y hy).2.2 (Lv y hy).1.c⟩;refine (zr rfl (zr rfl (bL (kF g1) az ⟨x.a,zr rfl ⟨.inr (aX.of (O0 g1 x mx).a),λr0 h0=>?_⟩⟩)));have f0:=g1.2.ne h0;have n0:H r0=none:=g1.free h0 f0;have g2:=g1.new (o:=HO.lst [V.int x.r.th,V.int x.r.bk,V.ref x.b,V.ref x.c]) h0;have k0:upd H1 r0 (HO.lst [V.int x.r.th,V.int x.r.bk,V.ref x.b,V.ref x.c]) r0=some (.lst [V.int x.r.th,V.int x.r.bk,V.ref x.b,V.ref x.c]):=xQ;generalize upd H1 r0 _=H2 at g2 k0 ⊢;refine (zr rfl ⟨p,zr rfl ⟨by decide,by decide,g2.2,λd2 H3 Sl Vg g3=>?_⟩⟩);have LR:=g2.trans g3;have k3:=g3.1 _ _ f0 k0;have dx:∀ {H':Hp},Go p H H'->DT H' 1 (.ref x.b)/\DT H' 1 (.ref x.c):=λg=>⟨DT.lst (O0 g x mx).b (DT.ints 0),DT.lst (O0 g x mx).c (DT.ints 0)⟩;have d4:∀ {H':Hp},Go p H H'->∀ u∈[V.int x.r.th,V.int x.r.bk,V.ref x.b,V.ref x.c],DT H' 1 u:=λg u hu=>by
   simp only [zG,zK,or_false] at hu;rcases hu with rfl | rfl | rfl | rfl
   ·exact DT.int 1 _
   ·exact DT.int 1 _
   ·exact (dx g).1
   ·exact (dx g).2
  refine (zr rfl (aG rfl rfl (zr rfl ?_)));obtain ⟨y,rfl⟩:=zm Sl;refine Um (fun σ H'=>∃ us v5 v6,σ=[some (.ref p),some (.ref lr),some (.int (z:Int)),some (.ref r0),some (.int (y:Int)),v5,v6,none]/\H' r0=some (.lst us)/\us.length=4/\(∀ u∈us,DT H' 1 u)/\Go p H H') ?_ (λc1 j1=>?_) (λc1 j1=>?_)
  rotate_left
  ·have c2:=of_decide_eq_true c1;obtain ⟨m,hm⟩:∃ m,bQ [V.int x.r.th,V.int x.r.bk,V.ref x.b,V.ref x.c] (y:Int)=some (V.int m):=by
    obtain rfl | rfl:y=0\/y=1:=by omega
    ·exact ⟨_,rfl⟩
    ·exact ⟨_,rfl⟩
   refine (zr rfl (zr rfl (zr rfl (bL k3 hm ⟨p,m,rfl,LR.2,λv H4 g4 o4=>?_⟩))));have WC:=LR.trans g4;have k4:=g4.1 _ _ f0 k3;refine (zr rfl (zr rfl ⟨r0,_,_,y,rfl,rfl,k4,qK (by show y < 4;omega),?_⟩));have g5:=WC.sJ (o:=HO.lst ([V.int x.r.th,V.int x.r.bk,V.ref x.b,V.ref x.c].set y v)) n0 f0;have o5:=o4.put (l:=r0) (o:=HO.lst ([V.int x.r.th,V.int x.r.bk,V.ref x.b,V.ref x.c].set y v)) (by rw [k3];nofun);refine j1 _ _ ⟨_,none,none,rfl,xQ,by rw [yI];rfl,λu hu=>?_,g5⟩;rcases yE hu with hu | rfl
   ·exact d4 g5 u hu
   ·exact o5.dt 1
  ·have c4:=of_decide_eq_false c1;refine (zr rfl (aG rfl rfl (zr rfl ?_)));refine Uo (fun σ H'=>σ=[some (.ref p),some (.ref lr),some (.int (z:Int)),some (.ref r0),some (.int (y:Int)),none,none,none]/\ay H3 H') ?_ (λc2 ke=>?_) (λc2=>⟨rfl,ay.refl _⟩)
   rotate_left
   ·have c3:=of_decide_eq_true c2;obtain ⟨q,qs,hm,hq,lq⟩:∃ (q:Addr) (qs:List Int),bQ [V.int x.r.th,V.int x.r.bk,V.ref x.b,V.ref x.c] (y:Int)=some (V.ref q)/\(∀ {H':Hp},Go p H H'->H' q=some (.lst (qs.map V.int)))/\qs.length<=100:=by
     obtain rfl | rfl:y=2\/y=3:=by omega
     ·exact ⟨x.b,x.r.bg,rfl,λg=>(O0 g x mx).b,(bD x mx).1⟩
     ·exact ⟨x.c,x.r.cm,rfl,λg=>(O0 g x mx).c,(bD x mx).2⟩
    refine (zr rfl (zr rfl (bL k3 hm ⟨zx _,λl0 qy=>⟨q,l0,zr rfl ⟨rfl,aB.of (xT qy _ _ (hq LR)),aB.of xQ,zr rfl ?_⟩⟩⟩)));have s4:=xT (o:=HO.lst []) qy;generalize upd H3 l0 (HO.lst [])=H4 at s4 ⊢;refine Ul _ ke (λc5 _=>?_) (λc5=>⟨rfl,s4⟩);have lqs:1<=qs.length:=by
     cases qs with
     | nil=>cases c5
     | cons _ _=>simp
    have g4:=LR.same s4;have k4:=s4 _ _ k3;refine (zr rfl (zr rfl (bL k4 hm ⟨q,zr rfl ⟨.inl (aB.of (hq g4)),λa0 y0=>?_⟩⟩)));have f5:=g4.2.ne y0;have n5:H a0=none:=g4.free y0 f5;have g5:=g4.new (o:=HO.lst (qs.map V.int)) y0;have u5:upd H4 a0 (HO.lst (qs.map V.int)) a0=some (.lst (qs.map V.int)):=xQ;have k5:=xT (o:=HO.lst (qs.map V.int)) y0 _ _ k4;generalize upd H4 a0 _=H5 at g5 u5 k5 ⊢;have na:r0≠a0:=λe=>by rw [e,y0] at k4;cases k4
    refine (zr rfl (zr rfl ⟨a0,zr rfl ⟨.inl (aB.of u5),p,zr rfl ⟨by rw [zA];omega,by rw [zA];omega,g5.2,λd6 H6 WE WD g6=>?_⟩⟩⟩));rw [zA] at WD;obtain ⟨w,rfl⟩:=zm WE;obtain ⟨m,Ra⟩:∃ m,qs[w]?=some m:=⟨_,zF (by omega)⟩;have u6:=g6.1 _ _ f5 u5;have k6:=g6.1 _ _ f0 k5;have JW:=g5.trans g6;refine (zr rfl (zr rfl (zr rfl ⟨a0,_,_,V.int m,rfl,rfl,aB.of u6,wA (by rw [zD,Ra];rfl),p,m,rfl,JW.2,λv H7 g7 o7=>?_⟩)));have u7:=g7.1 _ _ f5 u6;have k7:=g7.1 _ _ f0 k6;have MN:=JW.trans g7;refine (zr rfl (zr rfl ⟨a0,_,_,w,rfl,rfl,u7,qK (by rw [zA];omega),?_⟩));have g8:=MN.sJ (o:=HO.lst ((qs.map V.int).set w v)) n5 f5;have o8:=o7.put (l:=a0) (o:=HO.lst ((qs.map V.int).set w v)) (by rw [u6];nofun);have k8:upd H7 a0 (HO.lst ((qs.map V.int).set w v)) r0=some (.lst [V.int x.r.th,V.int x.r.bk,V.ref x.b,V.ref x.c]):=by rw [xj na];exact k7
    have u8:upd H7 a0 (HO.lst ((qs.map V.int).set w v)) a0=some (.lst ((qs.map V.int).set w v)):=xQ;generalize upd H7 a0 _=H8 at g8 o8 k8 u8 ⊢;refine (zr rfl (zr rfl (zr rfl ⟨r0,_,_,y,rfl,rfl,k8,qK (by show y < 4;omega),?_⟩)));have g9:=g8.sJ (o:=HO.lst ([V.int x.r.th,V.int x.r.bk,V.ref x.b,V.ref x.c].set y (V.ref a0))) n0 f0;have o9:=o8.put (l:=r0) (o:=HO.lst ([V.int x.r.th,V.int x.r.bk,V.ref x.b,V.ref x.c].set y (V.ref a0))) (by rw [k6];nofun);refine j1 _ _ ⟨_,lV rfl ⟨xQ,by rw [yI];rfl,λu hu=>?_,g9⟩⟩;rcases yE hu with hu | rfl
    ·exact d4 g9 u hu
    ·refine DT.lst (xs:=(qs.map V.int).set w v) (by rw [xj (Ne.symm na)];exact u8) λt ht=>?_;rcases yE ht with ht | rfl
     ·exact DT.ints 0 t ht
     ·exact o9.dt 0
   rintro σ H4 ⟨rfl,s4⟩;have g4:=LR.same s4;have k4:=s4 _ _ k3;refine (zr rfl ⟨r0,_,3,V.ref x.c,rfl,rfl,aB.of k4,rfl,x.c,zr rfl (.inl ⟨aB.of (O0 g4 x mx).c,λt1 h1=>?_⟩)⟩);have s5:=xT (o:=HO.tup (x.r.cm.map V.int)) h1;have u5:upd H4 t1 (HO.tup (x.r.cm.map V.int)) t1=some (.tup (x.r.cm.map V.int)):=xQ;generalize upd H4 t1 _=H5 at s5 u5 ⊢;have g5:=g4.same s5;have k5:=s5 _ _ k4;refine (zr rfl ⟨r0,_,3,V.ref x.c,rfl,rfl,aB.of k5,rfl,by show 1<=sizeLine;omega,λt2 h2=>?_⟩);have s6:=xT (o:=HO.lst [V.int 0]) h2;have u6:upd H5 t2 (HO.lst [V.int 0]) t2=some (.lst [V.int 0]):=xQ;generalize upd H5 t2 _=H6 at s6 u6 ⊢;have g6:=g5.same s6;have lc:=(bD x mx).2;refine ⟨x.c,t2,aG rfl rfl ⟨(O0 g6 x mx).c,u6,by rw [zA];show x.r.cm.length + 1<=_;omega,λt3 h3=>?_⟩⟩;have f7:=g6.2.ne h3;have s7:=xT (o:=HO.lst (x.r.cm.map V.int++[V.int 0])) h3;have u7:upd H6 t3 (HO.lst (x.r.cm.map V.int++[V.int 0])) t3=some (.lst (x.r.cm.map V.int++[V.int 0])):=xQ;generalize upd H6 t3 _=H7 at s7 u7 ⊢;have g7:=g6.same s7;refine ⟨by show 3<=sizeLine;omega,λl4 h4=>?_⟩;have f8:=g7.2.ne h4;have s8:=xT (o:=HO.lst [V.ref t1,V.ref t3,V.bF]) h4;have u8:upd H7 l4 (HO.lst [V.ref t1,V.ref t3,V.bF]) l4=some (.lst [V.ref t1,V.ref t3,V.bF]):=xQ;generalize upd H7 l4 _=H8 at s8 u8 ⊢;have g8:=g7.same s8;have k8:=s8 _ _ (s7 _ _ (s6 _ _ k5));refine (zr rfl ⟨p,zr rfl ⟨by decide,by decide,g8.2,λe G0 e0 e1 g9=>?_⟩⟩);have cX:=g8.trans g9;have k10:=g9.1 _ _ f0 k8;obtain ⟨v,hv,dv⟩:∃ v,bQ [V.ref t1,V.ref t3,V.bF] e=some v/\∀ o,DT (upd G0 r0 o) 1 v:=by
    obtain rfl | rfl | rfl:e=0\/e=1\/e=2:=by omega
    ·have ne:t1≠r0:=λz=>by rw [z,k4] at h1;cases h1
     exact (zr rfl (λo=>DT.tup (by rw [xj ne];exact g9.aS g8.2 _ _ (s8 _ _ (s7 _ _ (s6 _ _ u5)))) (DT.ints 0)))
    ·have ne:t3≠r0:=λz=>by rw [z,s6 _ _ k5] at h3;cases h3
     refine (zr rfl (λo=>DT.lst (by rw [xj ne];exact g9.1 _ _ f7 (s8 _ _ u7)) λt ht=>?_));rcases zV.mp ht with ht | ht
     ·exact DT.ints 0 t ht
     ·cases zE.mp ht;exact DT.int 0 0
    ·exact (zr rfl (λo=>DT.bF 1))
   refine ⟨l4,_,_,v,rfl,rfl,aB.of (g9.1 _ _ f8 u8),hv,?_⟩;refine (zr rfl ⟨r0,_,_,3,rfl,rfl,k10,rfl,?_⟩);have kO:=cX.sJ (o:=HO.lst ([V.int x.r.th,V.int x.r.bk,V.ref x.b,V.ref x.c].set 3 v)) n0 f0;refine j1 _ _ ⟨_,lV rfl ⟨xQ,rfl,λu hu=>?_,kO⟩⟩;rcases yE hu with hu | rfl
   ·exact d4 kO u hu
   ·exact dv _
  rintro σ G0 ⟨us,v5,v6,rfl,k4,l4,du,g4⟩;refine (zr rfl ⟨r0,zr rfl (.inl ⟨aB.of k4,λt1 h1=>?_⟩)⟩);have s5:=xT (o:=HO.tup us) h1;have k5:upd G0 t1 (HO.tup us) t1=some (.tup us):=xQ;generalize upd G0 t1 _=G1 at s5 k5 ⊢;have g5:=g4.same s5;refine (zr rfl ⟨p,zr rfl ⟨by decide,by decide,g5.2,λe2 G2 e20 e21 g6=>⟨rfl,zr rfl ?_⟩⟩⟩);have JW:=g5.trans g6;have k6:=g6.1 _ _ f0 (s5 _ _ k4);have t6:=g6.aS g5.2 _ _ k5;have du6:∀ u∈us,DT G2 1 u:=λu hu=>((du u hu).same s5).go g6 g5.2;refine gn (fun σ H'=>∃ v7,σ=[some (.ref p),some (.ref lr),some (.int (z:Int)),some (.ref r0),some (.int (y:Int)),v5,v6,some v7]/\DT H' 2 v7/\Go p H H') ?_ (λc3 ZE=>?_) (λc3=>(zr rfl ⟨DT.tup t6 du6,JW⟩))
  rotate_left
  ·refine (zr rfl (zr rfl (zr rfl ⟨t1,zr rfl ⟨aX.of t6,by rw [l4];decide,λt2 h2=>?_⟩⟩)));have s7:=xT (o:=HO.tup (aN us none (some 3))) h2;have u7:upd G2 t2 (HO.tup (aN us none (some 3))) t2=some (.tup (aN us none (some 3))):=xQ;generalize upd G2 t2 _=G3 at s7 u7 ⊢;have g7:=JW.same s7;refine ⟨by show 3<=sizeLine;omega,λl3 h3=>?_⟩;have f8:=g7.2.ne h3;have s8:=xT (o:=HO.lst [V.ref r0,V.ref t2,V.bF]) h3;have u8:upd G3 l3 (HO.lst [V.ref r0,V.ref t2,V.bF]) l3=some (.lst [V.ref r0,V.ref t2,V.bF]):=xQ;generalize upd G3 l3 _=G4 at s8 u8 ⊢;have g8:=g7.same s8;refine (zr rfl ⟨p,zr rfl ⟨by decide,by decide,g8.2,λe3 G5 e30 e31 g9=>?_⟩⟩);have cX:=g8.trans g9;have du9:∀ u∈us,DT G5 1 u:=λu hu=>(((du6 u hu).same s7).same s8).go g9 g8.2;obtain ⟨v,hv,dv⟩:∃ v,bQ [V.ref r0,V.ref t2,V.bF] e3=some v/\DT G5 2 v:=by
    obtain rfl | rfl | rfl:e3=0\/e3=1\/e3=2:=by omega
    ·exact (zr rfl (DT.lst (g9.1 _ _ f0 (s8 _ _ (s7 _ _ k6))) du9))
    ·exact (zr rfl (DT.tup (g9.aS g8.2 _ _ (s8 _ _ u7)) λu hu=>du9 u (dB hu)))
    ·exact (zr rfl (DT.bF 2))
   exact ⟨l3,_,_,v,rfl,rfl,aB.of (g9.1 _ _ f8 u8),hv,ZE _ _ (zr rfl ⟨dv,cX⟩)⟩
  rintro σ G3 ⟨v,rfl,dv,gg⟩;refine (zr rfl (zr rfl (zr rfl ⟨lr,zr rfl ⟨aB.of (kF gg),λb1 y1=>?_⟩⟩)));have w1:=xT (o:=HO.lst (aN (xs.map λa=>V.ref a.a) none (some (z:Int)))) y1;have u1:upd G3 b1 (HO.lst (aN (xs.map λa=>V.ref a.a) none (some (z:Int)))) b1=some (.lst (aN (xs.map λa=>V.ref a.a) none (some (z:Int)))):=xQ;generalize upd G3 b1 _=G4 at w1 u1 ⊢;refine (zr rfl ⟨by show 1<=sizeLine;omega,λb2 y2=>?_⟩);have w2:=xT (o:=HO.lst [v]) y2;have u2:upd G4 b2 (HO.lst [v]) b2=some (.lst [v]):=xQ;generalize upd G4 b2 _=G5 at w2 u2 ⊢;refine ⟨b1,b2,aG rfl rfl ⟨w2 _ _ u1,u2,by have:=qO (xs.map λa=>V.ref a.a) none (some (z:Int));rw [zA] at this;show _ + 1<=_;omega,λb3 y3=>?_⟩⟩;have w3:=xT (o:=HO.lst (aN (xs.map λa=>V.ref a.a) none (some (z:Int))++[v])) y3;have u3:upd G5 b3 (HO.lst (aN (xs.map λa=>V.ref a.a) none (some (z:Int))++[v])) b3=some (.lst (aN (xs.map λa=>V.ref a.a) none (some (z:Int))++[v])):=xQ;generalize upd G5 b3 _=G6 at w3 u3 ⊢;have RO:=(w1.trans w2).trans w3;refine (zr rfl (zr rfl (aG rfl rfl (zr rfl ⟨lr,zr rfl ⟨aB.of (RO _ _ (kF gg)),λb4 y4=>?_⟩⟩))));have w4:=xT (o:=HO.lst (aN (xs.map λa=>V.ref a.a) (some ((z:Int) + 1)) none)) y4;have u4:upd G6 b4 (HO.lst (aN (xs.map λa=>V.ref a.a) (some ((z:Int) + 1)) none)) b4=some (.lst (aN (xs.map λa=>V.ref a.a) (some ((z:Int) + 1)) none)):=xQ;generalize upd G6 b4 _=G7 at w4 u4 ⊢;refine ⟨b3,b4,aG rfl rfl ⟨w4 _ _ u3,u4,by have h1:=qO (xs.map λa=>V.ref a.a) none (some (z:Int));have h2:=qO (xs.map λa=>V.ref a.a) (some ((z:Int) + 1)) none;rw [zA] at h1 h2;rw [zU];show _ + 1 + _<=_;omega,λb5 y5=>?_⟩⟩;have w5:=xT (o:=HO.lst (aN (xs.map λa=>V.ref a.a) none (some (z:Int))++[v]++aN (xs.map λa=>V.ref a.a) (some ((z:Int) + 1)) none)) y5;have u5:upd G7 b5 (HO.lst (aN (xs.map λa=>V.ref a.a) none (some (z:Int))++[v]++aN (xs.map λa=>V.ref a.a) (some ((z:Int) + 1)) none)) b5=some (.lst (aN (xs.map λa=>V.ref a.a) none (some (z:Int))++[v]++aN (xs.map λa=>V.ref a.a) (some ((z:Int) + 1)) none)):=xQ;generalize upd G7 b5 _=G8 at w5 u5 ⊢;have X3:=(RO.trans w4).trans w5;exact q _ _ (gg.same X3) (DT.lst u5 (mh (cF λx hx=>O0 (gg.same X3) x hx) (dv.same X3)))
theorem DZ:aF ["_law_purse_here", "_law_plan_here", "_law_loads", "_law_wants", "_law_rows", "_law_told", "_law_way", "_law_more", "_law_one", "_law_spot"] ["_law_purse_here", "_law_plan_here", "_law_loads", "_law_wants"] (aj xz):=L2.bw
theorem Gj (T:Tx K mg a):aW P w K mg base dQ 4 a.AK a.BD ["_law_purse_here", "_law_plan_here", "_law_loads", "_law_wants"] (sf):=by
 have Aa:=wO P w base T;have Ca:=C8 P w base T;have Gf:=Fj P w base T;refine T.Bf.ok DZ (λvs H Q E h=>?_) (λbO A outer s H vs Q E hr h=>?_)
 ·obtain ⟨_,_,_,_,_,_,_,_,_,_,rfl,_⟩:=h;rfl
 ·have nd:=DZ.nd;have hu:=hr.units;obtain ⟨p,pl,ll,lw,lr,lt,ls,ws,xs,ts,rfl,hp,⟨hl,nl,bD⟩,⟨hw,nw,bX⟩,kk,hn,RN,OJ,xb,q⟩:=h;refine bP ?_;intro Y
  let B0:Bk Y ((af xz).drop 9):=⟨_,(xU (xu (xq (wS (xP (xR (xZ Gf (hr.mono (by decide)) rfl T.FR T.FW T.F3 .nil aq (xP (xR (pv 0) (xR (pv 4) xW rfl) rfl))) (xR (pv 5) xW rfl) rfl))))))⟩
  let B1:Bk Y ((af xz).drop 8):=⟨_,(xU (xl (xx (xp (kj hu) (pv 4) (xw qU) (av _)) (xU (xu (xq (wS (xP (xR (pv 4) (xR (xm qS (pv 5) (xw (xP (xR qi xW rfl)))) xW rfl) rfl)))))) xr) B0.bl))⟩
  let B2:Bk Y ((nb (af xz) 7).drop 4):=⟨_,(xU (xu (xq (wS (xP (xR (pv 4) (xR (xm qS (qQ (cQ rfl) (pv 5) (qX xS) qh) (xw (xP (xR (xi (xh rfl) (xw (xP (xR (wK (wv) (by rfl) T.bI zy (xP (xR (pv 8) xW rfl))) (xR (pv 8) xW rfl) rfl))) (wK (dF) (by rfl) T.jq yS (xP (xR (wf qA (pv 6) xS (av _)) xW rfl))) (λ_ _=>rfl)) xW rfl)))) xW rfl) rfl))))))⟩
  let B3:Bk Y ((nb (nb (af xz) 7) 3).drop 2):=⟨_,(xU (xu (wG (xm wW (xi (xh rfl) (pv 8) (pv 9) (λ_ _=>rfl)) (xf (xg rfl) (by rfl) T.aJ PySem.boot_len (xP (xR (xi (xh rfl) (xw (xP (xR (pv 2) (xR (pv 3) xW rfl) rfl))) (pv 9) (λ_ _=>rfl)) xW rfl)))) (wy (pv 8) (pv 9) wJ))))⟩
  let B4:Bk Y (nb (nb (af xz) 7) 3):=⟨_,(xU (xl (xk (i:=8) nd rfl rfl (wK (qG rfl) (by rfl) T.cK yD (xP (xR (xi (xh rfl) (pv 5) xS (λ_ _=>rfl)) xW rfl)))) (xl (xk (i:=9) nd rfl rfl (xm fj (pv 9) xS)) B3.bl)))⟩
  let B5:Bk Y ((nb (af xz) 7).drop 3):=⟨_,(xU (xl (xx (xp qA (xZ Aa (hr.mono (by decide)) rfl T.Ab T.Ac T.Ae .nil aq (xP (xR (pv 0) (xR xS xW rfl) rfl))) xS (av _)) B4.ps xr) B2.bl))⟩
  let B6:Bk Y ((nb (af xz) 7).drop 2):=⟨_,(xU (xl (wG (xZ Ca (hr.mono (by decide)) rfl T.Cw T.Cy T.Cz .nil aq (xP (xR (pv 0) (xR (xi (xh rfl) (pv 8) (pv 9) (λ_ _=>rfl)) xW rfl) rfl))) (wy (pv 8) (pv 9) wJ)) B5.bl))⟩
  let B7:Bk Y (nb (af xz) 7):=⟨_,(xU (xl (xk (i:=8) nd rfl rfl (wK (qG rfl) (by rfl) T.cK yD (xP (xR (xi (xh rfl) (pv 5) xS (λ_ _=>rfl)) xW rfl)))) (xl (xk (i:=9) nd rfl rfl (xZ Aa (hr.mono (by decide)) rfl T.Ab T.Ac T.Ae .nil aq (xP (xR (pv 0) (xR xS xW rfl) rfl)))) B6.bl)))⟩
  let B8:Bk Y (nb (af xz) 6):=⟨_,(xU (xl (xk (i:=7) nd rfl rfl (wK (wv) (by rfl) T.bI zy (xP (xR (wc (own:=["_law_k"]) (caps:=[0]) rfl (show aD ["_law_k"] [0] ["_law_purse_here", "_law_plan_here", "_law_loads", "_law_wants", "_law_rows", "_law_told", "_law_way", "_law_more", "_law_one", "_law_spot"] (aj xz) _ from L2.b8) (wV rfl T.aU (xP (xR xS xW rfl))) (λ_ _ _ _=>(xX (i:=0) (show List.Nodup (["_law_k", "_law_purse_here"]:List Str) from by decide +kernel) rfl rfl)) (λ_ _ _ _=>wP) (λ_ _ _ _=>(xm wW (xZ Aa (hr.mono (by decide)) rfl T.Ab T.Ac T.Ae .nil aq (xP (xR (pv 1) (xR xS xW rfl) rfl))) xS))) xW rfl)))) (xu (xq (wS (xP (xR (pv 4) (xR (xm qS (pv 5) (xw (xP (xR (pv 7) xW rfl)))) xW rfl) rfl)))))))⟩
  let B9:Bk Y ((af xz).drop 6):=⟨_,(xU (xl (xx (xp qA (pv 6) xS (av _)) B8.ps xr) (xl (xx (@PW.pt _ _ _ (dH (xp cu (pv 6) xS (av _)) (dc (xp (iz hu) (pv 5) (xw qU) (av _))))) B7.ps xr) B1.bl)))⟩
  let OA:Bk Y ((af xz).drop 5):=⟨_,(xU (xl (xx (xp qA (pv 6) xS (av _)) (xU (xu (xq (wS (xP (xR (pv 4) (xR (xm qS (pv 5) (qQ (cQ rfl) (pv 5) qh (qX xS))) xW rfl) rfl)))))) xr) B9.bl))⟩
  let RM:Bk Y (nb (af xz) 4):=⟨_,(xU (xu (xq (wS (xP (xR (xm qS (pv 4) (xw (xP (xR (wS (xP (xR xS (xR xS (xR (xm fh (xw (xP (xR xS xW rfl))) (xf (xg rfl) (by rfl) T.aJ PySem.boot_len (xP (xR (pv 2) xW rfl)))) (xR (xm fh (xw (xP (xR xS xW rfl))) (xf (xg rfl) (by rfl) T.aJ PySem.boot_len (xP (xR (pv 3) xW rfl)))) xW rfl) rfl) rfl) rfl))) xW rfl)))) (xR (pv 5) xW rfl) rfl))))))⟩
  let VB:Bk Y ((af xz).drop 3):=⟨_,(xU (xl (xx (xp qA (pv 6) xS (av _)) (xU (xu (xq (wS (xP (xR (qQ (cQ rfl) (pv 4) qh (qX (pL jN xS))) (xR (pv 5) xW rfl) rfl)))))) xr) (xl (xx (xp qA (pv 6) xS (av _)) RM.ps xr) OA.bl)))⟩
  let VA:Bk Y (nb (af xz) 2):=⟨_,(xU (xu (xq (xi (xh rfl) (xw (xP (xR (wS (xP (xR (wK (wv) (by rfl) T.bI zy (xP (xR (pv 4) xW rfl))) (xR (pv 5) xW rfl) rfl))) (xR (xw (xP (xR (pv 4) (xR (pv 5) xW rfl) rfl))) (xR (wS (xP (xR (pv 4) xW rfl))) (xR (wS (xP (xR (pv 4) (xR (wK (wv) (by rfl) T.bI zy (xP (xR (pv 5) xW rfl))) xW rfl) rfl))) (xR qi (xR xS (xR KZ xW rfl) rfl) rfl) rfl) rfl) rfl) rfl))) (xZ Aa (hr.mono (by decide)) rfl T.Ab T.Ac T.Ae .nil aq (xP (xR (pv 0) (xR xS xW rfl) rfl))) (λ_ _=>rfl)))))⟩
  let Vz:Bk Y ((af xz).drop 1):=⟨_,(xU (xl (xk (i:=6) nd rfl rfl (xZ Aa (hr.mono (by decide)) rfl T.Ab T.Ac T.Ae .nil aq (xP (xR (pv 0) (xR xS xW rfl) rfl)))) (xl (xx (xp qA (pv 6) xS (av _)) VA.ps xr) VB.bl)))⟩
  refine ⟨_,(xU (xl (wG (pv 1) (wE (n:=2) rfl rfl (xY (xX (i:=4) nd rfl rfl) (xY (xX (i:=5) nd rfl rfl) wD)))) Vz.bl)),?_⟩;have line:=bf;have kc:∀ {H':Hp},Go p H H'->aV H' pl lr lt xs ts:=λg=>kk.Rl g hp hn;have dr:∀ {H':Hp},Go p H H'->DT H' 3 (.ref lr):=λg=>DT.lst (kc g).lr (cF (kc g).rows);have dt:∀ {H':Hp},Go p H H'->DT H' 3 (.ref lt):=λg=>DT.lst (kc g).ls (qY (kc g).ones);have ft:∀ {H':Hp},Go p H H'->rA H' (.ref lt):=λg=>rA.lst (kc g).ls (by rw [zA];omega);have lm:(ts.map λx=>V.ref x.1).length<=64:=by rw [zA];exact OJ
  have lx:(xs.map λx=>V.ref x.a).length<=60:=by rw [zA];exact RN
  have adO:1<=sizeLine:=by decide
  refine (zr rfl (JN kk.p ?_));refine (zr rfl ⟨p,zr rfl ⟨by decide,by decide,hp,λd H1 d0 d1 g=>?_⟩⟩);refine (zr rfl ⟨rfl,zr rfl (kG (λh=>?_) λh=>?_)⟩)
  ·clear h;refine (zr rfl ⟨lr,zr rfl (.inl ⟨aB.of (kc g).lr,λa1 h1=>?_⟩)⟩);have s1:=xT (o:=HO.tup (xs.map λx=>V.ref x.a)) h1;have k1:upd H1 a1 (HO.tup (xs.map λx=>V.ref x.a)) a1=some (.tup (xs.map λx=>V.ref x.a)):=xQ;generalize upd H1 a1 _=H2 at s1 k1 ⊢;have g1:=g.same s1;refine (zr rfl ⟨by show 2<=sizeLine;omega,λa2 h2=>?_⟩);have s2:=xT (o:=HO.tup [V.ref a1,V.ref lt]) h2;have k2:upd H2 a2 (HO.tup [V.ref a1,V.ref lt]) a2=some (.tup [V.ref a1,V.ref lt]):=xQ;generalize upd H2 a2 _=H3 at s2 k2 ⊢;have g2:=g1.same s2;refine (zr rfl (zr rfl ⟨by show 2<=sizeLine;omega,λa3 h3=>?_⟩));have f3:=g2.2.ne h3;have s3:=xT (o:=HO.lst [V.ref lr,V.ref lt]) h3;have k3:upd H3 a3 (HO.lst [V.ref lr,V.ref lt]) a3=some (.lst [V.ref lr,V.ref lt]):=xQ;generalize upd H3 a3 _=H4 at s3 k3 ⊢;have g3:=g2.same s3;refine (zr rfl ⟨by show 1<=sizeLine;omega,λa4 h4=>?_⟩);have s4:=xT (o:=HO.tup [V.ref lr]) h4;have k4:upd H4 a4 (HO.tup [V.ref lr]) a4=some (.tup [V.ref lr]):=xQ;generalize upd H4 a4 _=H5 at s4 k4 ⊢;have g4:=g3.same s4;refine (zr rfl (zr rfl ⟨lt,zr rfl (.inl ⟨aB.of (kc g4).ls,λa5 h5=>?_⟩)⟩));have s5:=xT (o:=HO.tup (ts.map λx=>V.ref x.1)) h5;have k5:upd H5 a5 (HO.tup (ts.map λx=>V.ref x.1)) a5=some (.tup (ts.map λx=>V.ref x.1)):=xQ;generalize upd H5 a5 _=H6 at s5 k5 ⊢;have g5:=g4.same s5;refine ⟨by show 2<=sizeLine;omega,λa6 h6=>?_⟩;have s6:=xT (o:=HO.tup [V.ref lr,V.ref a5]) h6;have k6:upd H6 a6 (HO.tup [V.ref lr,V.ref a5]) a6=some (.tup [V.ref lr,V.ref a5]):=xQ;generalize upd H6 a6 _=H7 at s6 k6 ⊢;have g6:=g5.same s6;refine ⟨by show 7<=sizeLine;omega,λl hl=>?_⟩;have f8:=g6.2.ne hl;have s8:=xT (o:=HO.lst [V.ref a2,V.ref a3,V.ref a4,V.ref a6,V.bF,V.int 5,V.str (Str.ofString "plan")]) hl;have k8:upd H7 l (HO.lst [V.ref a2,V.ref a3,V.ref a4,V.ref a6,V.bF,V.int 5,V.str (Str.ofString "plan")]) l=some (.lst [V.ref a2,V.ref a3,V.ref a4,V.ref a6,V.bF,V.int 5,V.str (Str.ofString "plan")]):=xQ;generalize upd H7 l _=H8 at s8 k8 ⊢;have g8:=g6.same s8;refine (zr rfl ⟨p,zr rfl ⟨by decide,by decide,g8.2,λe H9 e0 e1 g9=>?_⟩⟩);have cX:=g8.trans g9;have t:∀ {b xs},H8 b=some (.tup xs)->H9 b=some (.tup xs):=λh=>g9.aS g8.2 _ _ h;have j1:=t (s8 _ _ (s6 _ _ (s5 _ _ (s4 _ _ (s3 _ _ (s2 _ _ k1))))));have j2:=t (s8 _ _ (s6 _ _ (s5 _ _ (s4 _ _ (s3 _ _ k2)))));have j3:=g9.1 _ _ f3 (s8 _ _ (s6 _ _ (s5 _ _ (s4 _ _ k3))));have j4:=t (s8 _ _ (s6 _ _ (s5 _ _ k4)));have j5:=t (s8 _ _ (s6 _ _ k5));have j6:=t (s8 _ _ k6);have jl:=g9.1 _ _ f8 k8;have dr1:DT H9 3 (.ref a1):=DT.tup j1 (cF (kc cX).rows);have dt5:DT H9 3 (.ref a5):=DT.tup j5 (qY (kc cX).ones);obtain rfl | rfl | rfl | rfl | rfl | rfl | rfl:e=0\/e=1\/e=2\/e=3\/e=4\/e=5\/e=6:=by omega
   ·exact (bL jl rfl (q _ _ cX (DT.tup j2 (DT.two dr1 (dt cX))) (.two j2 (ft cX))))
   ·exact (bL jl rfl (q _ _ cX (DT.lst j3 (DT.two (dr cX) (dt cX))) (.lst j3)))
   ·exact (bL jl rfl (q _ _ cX (DT.tup j4 λx hx=>by cases zE.mp hx;exact dr cX) (.one j4)))
   ·exact (bL jl rfl (q _ _ cX (DT.tup j6 (DT.two (dr cX) dt5)) (.two j6 (.tup j5))))
   ·exact (bL jl rfl (q _ _ cX (DT.bF 4) (.flat nofun)))
   ·exact (bL jl rfl (q _ _ cX (DT.int 4 5) (.flat nofun)))
   ·exact (bL jl rfl (q _ _ cX (DT.flat (t := "str") rfl (by decide) (by decide) 4) (.flat nofun)))
  clear h;refine (zr rfl ⟨rfl,zr rfl (kG (λh=>?_) λh=>?_)⟩)
  ·clear h;refine (zr rfl (zr rfl (zr rfl ⟨lr,zr rfl ⟨aB.of (kc g).lr,λa1 h1=>?_⟩⟩)));have s1:=xT (o:=HO.lst (aN (xs.map λx=>V.ref x.a) none (some (-1)))) h1;have k1:upd H1 a1 (HO.lst (aN (xs.map λx=>V.ref x.a) none (some (-1)))) a1=some (.lst (aN (xs.map λx=>V.ref x.a) none (some (-1)))):=xQ;generalize upd H1 a1 _=H2 at s1 k1 ⊢;have g1:=g.same s1;refine (zr rfl ⟨by show 2<=sizeLine;omega,fc q g1 (DT.lst k1 λx hx=>cF (kc g1).rows x (dB hx)) (dt g1) (ft g1)⟩)
  clear h;refine (zr rfl ⟨rfl,zr rfl (kG (λh=>?_) λh=>?_)⟩)
  ·clear h;refine (zr rfl ⟨by show 1<=sizeLine;omega,λb1 y1=>?_⟩);have s1:=xT (o:=HO.lst [V.int 0]) y1;have u1:upd H1 b1 (HO.lst [V.int 0]) b1=some (.lst [V.int 0]):=xQ;generalize upd H1 b1 _=H2 at s1 u1 ⊢;have g1:=g.same s1;have sz:∀ n:Nat,n<=100->[V.int 0].length * (n:Int).toNat<=sizeLine:=λn hn=>by
    have:[V.int 0].length * (n:Int).toNat=n:=by simp
    have:100<=sizeLine:=by decide
    omega
   refine (zr rfl ⟨ll,zr rfl ⟨.inl (aB.of (g1.1 _ _ nl hl)),b1,aG rfl rfl ⟨u1,by omega,by omega,sz _ bD,λb2 y2=>?_⟩⟩⟩);have s2:=xT (o:=HO.lst (List.replicate ((ls.length:Int).toNat) [V.int 0]).flatten) y2;have u2:upd H2 b2 (HO.lst (List.replicate ((ls.length:Int).toNat) [V.int 0]).flatten) b2=some (.lst (List.replicate ((ls.length:Int).toNat) [V.int 0]).flatten):=xQ;generalize upd H2 b2 _=H3 at s2 u2 ⊢;have g2:=g1.same s2;refine ⟨by show 1<=sizeLine;omega,λb3 y3=>?_⟩;have s3:=xT (o:=HO.lst [V.int 0]) y3;have u3:upd H3 b3 (HO.lst [V.int 0]) b3=some (.lst [V.int 0]):=xQ;generalize upd H3 b3 _=H4 at s3 u3 ⊢;have g3:=g2.same s3;refine (zr rfl ⟨lw,zr rfl ⟨.inl (aB.of (g3.1 _ _ nw hw)),b3,aG rfl rfl ⟨u3,by omega,by omega,sz _ bX,λb4 y4=>?_⟩⟩⟩);have s4:=xT (o:=HO.lst (List.replicate ((ws.length:Int).toNat) [V.int 0]).flatten) y4;have u4:upd H4 b4 (HO.lst (List.replicate ((ws.length:Int).toNat) [V.int 0]).flatten) b4=some (.lst (List.replicate ((ws.length:Int).toNat) [V.int 0]).flatten):=xQ;generalize upd H4 b4 _=H5 at s4 u4 ⊢;have g4:=g3.same s4;refine ⟨by show 4<=sizeLine;omega,λb5 y5=>?_⟩;have s5:=xT (o:=HO.tup [V.int 0,V.int 0,V.ref b2,V.ref b4]) y5;have u5:upd H5 b5 (HO.tup [V.int 0,V.int 0,V.ref b2,V.ref b4]) b5=some (.tup [V.int 0,V.int 0,V.ref b2,V.ref b4]):=xQ;generalize upd H5 b5 _=H6 at s5 u5 ⊢;have g5:=g4.same s5;refine ⟨by show 1<=sizeLine;omega,λb6 y6=>?_⟩;have s6:=xT (o:=HO.lst [V.ref b5]) y6;have u6:upd H6 b6 (HO.lst [V.ref b5]) b6=some (.lst [V.ref b5]):=xQ;generalize upd H6 b6 _=H7 at s6 u6 ⊢;have g6:=g5.same s6;refine ⟨lr,b6,aG rfl rfl ⟨(kc g6).lr,u6,by show _ + 1<=sizeLine;omega,λb7 y7=>?_⟩⟩;have s7:=xT (o:=HO.lst ((xs.map λx=>V.ref x.a)++[V.ref b5])) y7;have u7:upd H7 b7 (HO.lst ((xs.map λx=>V.ref x.a)++[V.ref b5])) b7=some (.lst ((xs.map λx=>V.ref x.a)++[V.ref b5])):=xQ;generalize upd H7 b7 _=H8 at s7 u7 ⊢;have g7:=g6.same s7;refine (zr rfl ⟨by show 2<=sizeLine;omega,fc q g7 (DT.lst u7 λx hx=>?_) (dt g7) (ft g7)⟩);rcases zV.mp hx with hx | hx
   ·exact cF (kc g7).rows x hx
   ·cases zE.mp hx;refine DT.tup (s7 _ _ (s6 _ _ u5)) λy hy=>?_;simp only [zG,zK,or_false] at hy;rcases hy with rfl | rfl | rfl | rfl
    ·exact DT.int 1 _
    ·exact DT.int 1 _
    ·exact DT.lst (s7 _ _ (s6 _ _ (s5 _ _ (s4 _ _ (s3 _ _ u2))))) jM
    ·exact DT.lst (s7 _ _ (s6 _ _ (s5 _ _ u4))) jM
  clear h;refine (zr rfl ⟨rfl,zr rfl (kG (λh=>?_) λh=>?_)⟩)
  ·clear h;refine (zr rfl (zr rfl (zr rfl (zr rfl ⟨lt,zr rfl ⟨aB.of (kc g).ls,λa1 h1=>?_⟩⟩))));have s1:=xT (o:=HO.lst (aN (ts.map λx=>V.ref x.1) none (some 1))) h1;have k1:upd H1 a1 (HO.lst (aN (ts.map λx=>V.ref x.1) none (some 1))) a1=some (.lst (aN (ts.map λx=>V.ref x.1) none (some 1))):=xQ;generalize upd H1 a1 _=H2 at s1 k1 ⊢;have g1:=g.same s1;have c1:(aN (ts.map λx=>V.ref x.1) none (some 1)).length<=1:=JC _;refine ⟨lt,a1,aG rfl rfl ⟨(kc g1).ls,k1,by show _ + _<=sizeLine;omega,λa2 h2=>?_⟩⟩;have s2:=xT (o:=HO.lst ((ts.map λx=>V.ref x.1)++aN (ts.map λx=>V.ref x.1) none (some 1))) h2;have k2:upd H2 a2 (HO.lst ((ts.map λx=>V.ref x.1)++aN (ts.map λx=>V.ref x.1) none (some 1))) a2=some (.lst ((ts.map λx=>V.ref x.1)++aN (ts.map λx=>V.ref x.1) none (some 1))):=xQ;generalize upd H2 a2 _=H3 at s2 k2 ⊢;have g2:=g1.same s2;refine ⟨by show 2<=sizeLine;omega,fc q g2 (dr g2) (DT.lst k2 λx hx=>?_) (.lst k2 (by rw [zU];omega))⟩;rcases zV.mp hx with hx | hx
   ·exact qY (kc g2).ones x hx
   ·exact qY (kc g2).ones x (dB hx)
  clear h;refine (zr rfl ⟨rfl,zr rfl (kG (λh=>?_) λh=>?_)⟩)
  ·clear h;refine (zr rfl ⟨by decide,by decide,?_⟩);refine (let W39:IC:=λi τ acc H5=>∃ ms:List Int,(∃ t0,τ=[t0,some (.ref p)])/\acc=ms.map V.int/\ms.length=i/\Go p H H5;rE (lo:=0) (m:=3) W39 ⟨[],⟨_,rfl⟩,rfl,rfl,g⟩ (by omega) ?_ ?_ ?_)
   ·rintro i τ acc H5 ⟨ms,_,rfl,rfl,_⟩;rw [zA];exact zJ _
   ·rintro i τ acc H5 C hi ⟨ms,⟨t0,rfl⟩,rfl,rfl,g5⟩ hC;refine (zr rfl ⟨p,zr rfl ⟨by decide,by decide,g5.2,λe H6 e0 e1 g6=>(aG rfl rfl (hC _ _ _ ⟨ms++[e - 1],⟨_,rfl⟩,by rw [zB];rfl,by rw [zU];rfl,g5.trans g6⟩))⟩⟩)
   rintro τ acc H5 ⟨ms,_,rfl,hml,g5⟩ a1 y1;have s1:=xT (o:=HO.lst (ms.map V.int)) y1;have u1:upd H5 a1 (.lst (ms.map V.int)) a1=some (.lst (ms.map V.int)):=xQ;generalize upd H5 a1 _=H6 at s1 u1 ⊢;have g6:=g5.same s1;refine ⟨a1,zr rfl (.inl ⟨aB.of u1,λa2 y2=>?_⟩)⟩;have s2:=xT (o:=HO.tup (ms.map V.int)) y2;have u2:upd H6 a2 (HO.tup (ms.map V.int)) a2=some (.tup (ms.map V.int)):=xQ;generalize upd H6 a2 _=H7 at s2 u2 ⊢;have g7:=g6.same s2;refine (zr rfl (zr rfl (zr rfl ⟨by show 1<=sizeLine;omega,λa3 y3=>?_⟩)));have s3:=xT (o:=HO.lst [V.ref a2]) y3;have u3:upd H7 a3 (HO.lst [V.ref a2]) a3=some (.lst [V.ref a2]):=xQ;generalize upd H7 a3 _=H8 at s3 u3 ⊢;have g8:=g7.same s3;refine ⟨lt,a3,aG rfl rfl ⟨(kc g8).ls,u3,by show _ + 1<=sizeLine;omega,λa4 y4=>?_⟩⟩;have s4:=xT (o:=HO.lst ((ts.map λx=>V.ref x.1)++[V.ref a2])) y4;have u4:upd H8 a4 (HO.lst ((ts.map λx=>V.ref x.1)++[V.ref a2])) a4=some (.lst ((ts.map λx=>V.ref x.1)++[V.ref a2])):=xQ;generalize upd H8 a4 _=H9 at s4 u4 ⊢;have g9:=g8.same s4;refine ⟨by show 2<=sizeLine;omega,fc q g9 (dr g9) (DT.lst u4 λx hx=>?_) (.lst u4 (by rw [zU];show _ + 1<=100;omega))⟩;rcases zV.mp hx with hx | hx
   ·exact qY (kc g9).ones x hx
   ·cases zE.mp hx;exact DT.tup (s4 _ _ (s3 _ _ u2)) (DT.ints 1)
  clear h;refine (zr rfl (aG rfl rfl (zr rfl ?_)));refine N5 (fun σ H'=>σ=[some (.ref p),some (.ref pl),some (.ref ll),some (.ref lw),some (.ref lr),some (.ref lt),some (.int d),none,none,none]/\Go p H H') ?_ (λc1 k1=>?_) (λc1=>⟨rfl,g⟩)
  rotate_left
  ·refine (zr rfl ⟨zx _,λl0 qy=>⟨lt,l0,zr rfl ⟨rfl,aB.of (xT qy _ _ (kc g).ls),aB.of xQ,zr rfl ?_⟩⟩⟩);have g2:=g.new (o:=HO.lst []) qy;generalize upd H1 l0 (HO.lst [])=H2 at g2 ⊢;refine gn _ k1 (λc2 _=>?_) (λc2=>⟨rfl,g2⟩);have lts:1<=ts.length:=by
    cases ts with
    | nil=>cases c2
    | cons _ _=>simp
   obtain ⟨x0,Lv⟩:∃ x,ts[0]?=some x:=⟨_,zF (by omega)⟩;have mx:=zC Lv;have az:bQ (ts.map λx=>V.ref x.1) 0=some (V.ref x0.1):=wA (j:=0) (by rw [zD,Lv];rfl);refine (zr rfl (bL ((kc g2).ls) az ⟨x0.1,zr rfl ⟨.inr (aX.of ((kc g2).ones x0 mx)),λr0 h0=>?_⟩⟩));have f0:=g2.2.ne h0;have n0:H r0=none:=g2.free h0 f0;have g3:=g2.new (o:=HO.lst [V.int x0.2.k,V.int x0.2.j,V.int x0.2.m]) h0;have k3:upd H2 r0 (HO.lst [V.int x0.2.k,V.int x0.2.j,V.int x0.2.m]) r0=some (.lst [V.int x0.2.k,V.int x0.2.j,V.int x0.2.m]):=xQ;generalize upd H2 r0 _=H3 at g3 k3 ⊢;refine (zr rfl ⟨p,zr rfl ⟨by decide,by decide,g3.2,λd2 H4 Sl Vg g4=>?_⟩⟩);obtain ⟨y,rfl⟩:=zm Sl;have WC:=g3.trans g4;have k4:=g4.1 _ _ f0 k3;obtain ⟨m,hm⟩:∃ m,bQ [V.int x0.2.k,V.int x0.2.j,V.int x0.2.m] (y:Int)=some (V.int m):=by
    obtain rfl | rfl | rfl:y=0\/y=1\/y=2:=by omega
    ·exact ⟨_,rfl⟩
    ·exact ⟨_,rfl⟩
    ·exact ⟨_,rfl⟩
   refine (zr rfl (zr rfl (zr rfl (bL k4 hm ⟨p,m,rfl,WC.2,λv H5 g5 o5=>?_⟩))));have k5:=g5.1 _ _ f0 k4;refine (zr rfl (zr rfl ⟨r0,_,_,y,rfl,rfl,k5,qK (by show y < 3;omega),?_⟩));have g6:=(WC.trans g5).sJ (o:=HO.lst ([V.int x0.2.k,V.int x0.2.j,V.int x0.2.m].set y v)) n0 f0;have o6:=o5.put (l:=r0) (o:=HO.lst ([V.int x0.2.k,V.int x0.2.j,V.int x0.2.m].set y v)) (by rw [k4];nofun);have k6:upd H5 r0 (HO.lst ([V.int x0.2.k,V.int x0.2.j,V.int x0.2.m].set y v)) r0=some (.lst ([V.int x0.2.k,V.int x0.2.j,V.int x0.2.m].set y v)):=xQ;generalize upd H5 r0 _=H6 at g6 o6 k6 ⊢;have d6:∀ u∈[V.int x0.2.k,V.int x0.2.j,V.int x0.2.m].set y v,DT H6 1 u:=λu hu=>by
    rcases yE hu with hu | rfl
    ·exact DT.three (DT.int 1 _) (DT.int 1 _) (DT.int 1 _) u hu
    ·exact o6.dt 1
   refine (zr rfl ⟨p,zr rfl ⟨by decide,by decide,g6.2,λe2 H7 e20 e21 g7=>⟨rfl,zr rfl ?_⟩⟩⟩);have MN:=g6.trans g7;refine gn (fun σ H'=>∃ v8 vs v9,σ=[some (.ref p),some (.ref pl),some (.ref ll),some (.ref lw),some (.ref lr),some (.ref lt),some (.int d),none,some (.ref v8),v9]/\H' v8=some (.lst vs)/\(∀ u∈vs,DT H' 1 u)/\Go p H H') ?_ (λc3 ZE=>?_) (λc3=>⟨_,lV rfl ⟨g7.1 _ _ f0 k6,λu hu=>(d6 u hu).go g7 g6.2,MN⟩⟩)
   rotate_left
   ·refine (zr rfl (bL ((kc MN).ls) az ⟨x0.1,zr rfl ⟨.inr (aX.of ((kc MN).ones x0 mx)),λr1 h1=>?_⟩⟩));have f1:=MN.2.ne h1;have n1:H r1=none:=MN.free h1 f1;have g8:=MN.new (o:=HO.lst [V.int x0.2.k,V.int x0.2.j,V.int x0.2.m]) h1;have k8:upd H7 r1 (HO.lst [V.int x0.2.k,V.int x0.2.j,V.int x0.2.m]) r1=some (.lst [V.int x0.2.k,V.int x0.2.j,V.int x0.2.m]):=xQ;generalize upd H7 r1 _=H8 at g8 k8 ⊢;obtain ⟨m2,hm2⟩:∃ m2,bQ [V.int x0.2.k,V.int x0.2.j,V.int x0.2.m] ((y:Int) % 2)=some (V.int m2):=by
     obtain rfl | rfl | rfl:y=0\/y=1\/y=2:=by omega
     ·exact ⟨_,rfl⟩
     ·exact ⟨_,rfl⟩
     ·exact ⟨_,rfl⟩
    obtain ⟨z,hz,nO⟩:∃ z,tE [V.int x0.2.k,V.int x0.2.j,V.int x0.2.m].length ((y:Int) % 2)=some z/\True:=by
     obtain rfl | rfl | rfl:y=0\/y=1\/y=2:=by omega
     ·exact (zr rfl trivial)
     ·exact (zr rfl trivial)
     ·exact (zr rfl trivial)
    obtain ⟨ql,qs,hq,kq⟩:∃ ql qs,bQ [V.ref ll,V.ref lw] ((y:Int) % 2)=some (V.ref ql)/\∀ {H':Hp},Go p H H'->H' ql=some (.lst qs):=by
     obtain rfl | rfl | rfl:y=0\/y=1\/y=2:=by omega
     ·exact ⟨ll,ls,rfl,λg=>g.1 _ _ nl hl⟩
     ·exact ⟨lw,ws,rfl,λg=>g.1 _ _ nw hw⟩
     ·exact ⟨ll,ls,rfl,λg=>g.1 _ _ nl hl⟩
    refine (zr rfl (aG rfl rfl ⟨by show (0:Int) < 2;decide,?_⟩));refine (zr rfl (zr rfl ⟨r1,_,_,V.int m2,rfl,rfl,aB.of k8,hm2,zr rfl (zr rfl ⟨by show 2<=sizeLine;omega,λl5 h5=>?_⟩)⟩));have s9:=xT (o:=HO.lst [V.ref ll,V.ref lw]) h5;have u9:upd H8 l5 (HO.lst [V.ref ll,V.ref lw]) l5=some (.lst [V.ref ll,V.ref lw]):=xQ;generalize upd H8 l5 _=H9 at s9 u9 ⊢;have g9:=g8.same s9;refine (zr rfl ⟨l5,_,_,V.ref ql,rfl,rfl,aB.of u9,hq,ql,zr rfl ⟨.inl (aB.of (kq g9)),aG rfl rfl ?_⟩⟩);refine (zr rfl (zr rfl ⟨r1,_,_,z,rfl,rfl,s9 _ _ k8,hz,?_⟩));have cX:=g9.sJ (o:=HO.lst ([V.int x0.2.k,V.int x0.2.j,V.int x0.2.m].set z (V.int (m2 - (qs.length:Int))))) n1 f1;refine ZE _ _ ⟨r1,lV rfl ⟨xQ,λu hu=>?_,cX⟩⟩;rcases yE hu with hu | rfl
    ·exact DT.three (DT.int 1 _) (DT.int 1 _) (DT.int 1 _) u hu
    ·exact DT.int 1 _
   rintro σ H8 ⟨v8,vs,v9,rfl,k8,d8,g8⟩;refine (zr rfl (zr rfl (zr rfl ⟨lt,zr rfl ⟨aB.of (kc g8).ls,λb1 y1=>?_⟩⟩)));have s1:=xT (o:=HO.lst (aN (ts.map λx=>V.ref x.1) (some 1) none)) y1;have u1:upd H8 b1 (HO.lst (aN (ts.map λx=>V.ref x.1) (some 1) none)) b1=some (.lst (aN (ts.map λx=>V.ref x.1) (some 1) none)):=xQ;generalize upd H8 b1 _=H9 at s1 u1 ⊢;have g9:=g8.same s1;refine (zr rfl ⟨v8,zr rfl (.inl ⟨aB.of (s1 _ _ k8),λb2 y2=>?_⟩)⟩);have s2:=xT (o:=HO.tup vs) y2;have u2:upd H9 b2 (HO.tup vs) b2=some (.tup vs):=xQ;generalize upd H9 b2 _=eX at s2 u2 ⊢;have cX:=g9.same s2;refine (zr rfl ⟨by show 2<=sizeLine;omega,λb3 y3=>?_⟩);have s3:=xT (o:=HO.lst [V.ref b2,V.ref v8]) y3;have u3:upd eX b3 (HO.lst [V.ref b2,V.ref v8]) b3=some (.lst [V.ref b2,V.ref v8]):=xQ;generalize upd eX b3 _=fX at s3 u3 ⊢;have kO:=cX.same s3;have WG:∀ u∈vs,DT fX 1 u:=λu hu=>(((d8 u hu).same s1).same s2).same s3;have Wd:=s3 _ _ (s2 _ _ (s1 _ _ k8));obtain ⟨v,hv,dv⟩:∃ v,bQ [V.ref b2,V.ref v8] (if decide (V.int d=V.int 5)=true then 1 else 0)=some v/\DT fX 2 v:=by
    by_cases e5:V.int d=V.int 5
    ·exact ⟨V.ref v8,by rw [if_pos (decide_eq_true e5)];rfl,DT.lst Wd WG⟩
    ·exact ⟨V.ref b2,by rw [if_neg λz=>e5 (of_decide_eq_true z)];rfl,DT.tup (s3 _ _ u2) WG⟩
   refine (zr rfl ⟨rfl,.inr (zr rfl ?_)⟩);refine ⟨b3,_,_,v,rfl,rfl,aB.of u3,hv,?_⟩;refine ⟨by show 1<=sizeLine;omega,λb4 y4=>?_⟩;have s4:=xT (o:=HO.lst [v]) y4;have u4:upd fX b4 (HO.lst [v]) b4=some (.lst [v]):=xQ;generalize upd fX b4 _=lI at s4 u4 ⊢;have Si:=kO.same s4;have c1:=qO (ts.map λx=>V.ref x.1) (some 1) none;refine ⟨b1,b4,aG rfl rfl ⟨s4 _ _ (s3 _ _ (s2 _ _ u1)),u4,by show _ + 1<=sizeLine;omega,λb5 y5=>?_⟩⟩;have s5:=xT (o:=HO.lst (aN (ts.map λx=>V.ref x.1) (some 1) none++[v])) y5;have u5:upd lI b5 (HO.lst (aN (ts.map λx=>V.ref x.1) (some 1) none++[v])) b5=some (.lst (aN (ts.map λx=>V.ref x.1) (some 1) none++[v])):=xQ;generalize upd lI b5 _=JK at s5 u5 ⊢;have g13:=Si.same s5;refine ⟨by show 2<=sizeLine;omega,fc q g13 (dr g13) (DT.lst u5 λx hx=>?_) (.lst u5 (by rw [zU];show _ + 1<=100;omega))⟩;rcases zV.mp hx with hx | hx
   ·exact qY (kc g13).ones x (dB hx)
   ·cases zE.mp hx;exact (dv.same s4).same s5
  rintro σ G0 ⟨rfl,g0⟩;refine (zr rfl ⟨zx _,λl0 qy=>⟨lr,l0,zr rfl ⟨rfl,aB.of (xT qy _ _ (kc g0).lr),aB.of xQ,zr rfl ?_⟩⟩⟩);have g1:=g0.new (o:=HO.lst []) qy;generalize upd G0 l0 (HO.lst [])=G1 at g1 ⊢;refine QY (λc1=>?_) λc1=>?_
  ·refine (zr rfl (zr rfl ⟨by show 1<=sizeLine;omega,λa3 y3=>?_⟩));have s3:=xT (o:=HO.lst [V.bF]) y3;have u3:upd G1 a3 (HO.lst [V.bF]) a3=some (.lst [V.bF]):=xQ;generalize upd G1 a3 _=G2 at s3 u3 ⊢;have g2:=g1.same s3;refine ⟨lt,a3,aG rfl rfl ⟨(kc g2).ls,u3,by show _ + 1<=sizeLine;omega,λa4 y4=>?_⟩⟩;have s4:=xT (o:=HO.lst ((ts.map λx=>V.ref x.1)++[V.bF])) y4;have u4:upd G2 a4 (HO.lst ((ts.map λx=>V.ref x.1)++[V.bF])) a4=some (.lst ((ts.map λx=>V.ref x.1)++[V.bF])):=xQ;generalize upd G2 a4 _=G3 at s4 u4 ⊢;have g3:=g2.same s4;refine ⟨by show 2<=sizeLine;omega,fc q g3 (dr g3) (DT.lst u4 λx hx=>?_) (.lst u4 (by rw [zU];show _ + 1<=100;omega))⟩;rcases zV.mp hx with hx | hx
   ·exact qY (kc g3).ones x hx
   ·cases zE.mp hx;exact DT.bF 2
  have V6:1<=xs.length:=by
   cases xs with
   | nil=>cases c1
   | cons _ _=>simp
  refine (zr rfl (zr rfl ⟨p,lr,xs,rfl,g1.2,(kc g1).lr,λx hx=>⟨(kc g1).rows x hx,hn x hx⟩,V6,by omega,xb,λv G2 g2 dv=>?_⟩));have g3:=g1.trans g2;exact (zr rfl ⟨by show 2<=sizeLine;omega,fc q g3 dv (dt g3) (ft g3)⟩)
theorem ED:aF ["_law_book_here", "_law_loads", "_law_wants", "_law_thing", "_law_due", "_law_told"] ["_law_book_here", "_law_loads", "_law_wants", "_law_thing"] (aj qr):=L2.bw
theorem GC (T:Tx K mg a):aW P w K mg base dQ 7 a.Bc a.BZ ["_law_book_here", "_law_loads", "_law_wants", "_law_thing"] (vS):=by
 have Cv:=Da P w base T;have Hv:=Gx P w base T;have Hw:=Gz P w base T;refine T.BA.ok ED (λvs H Q E h=>?_) (λbO A outer s H vs Q E hr h=>?_)
 ·obtain ⟨_,_,_,_,_,_,_,_,_,_,rfl,_⟩:=h;rfl
 ·have nd:=ED.nd;have hu:=hr.units;obtain ⟨b,ll,lw,v,aa,tr,tm,ps,ls,ws,rfl,hb,gd,nF,hl,hw,bD,bX,Y8,XW,dt,eB,q⟩:=h;refine bP ?_;intro Y
  let B0:Bk Y ((af qr).drop 3):=⟨_,(xU (xu (xq (qj (xZ Cv (hr.mono (by decide)) rfl T.DA T.DD T.DG .nil aq (xP (xR (pv 5) xW rfl))) (qo (wf qA (pv 5) (pv 4) (av _)))))))⟩
  let B1:Bk Y ((af qr).drop 1):=⟨_,(xU (xl (xk (i:=5) nd rfl rfl (xZ Hv (hr.mono (by decide)) rfl T.Hc T.Hg T.Hj .nil aq (xP (xR (pv 0) (xR (wK (qG rfl) (by rfl) T.cK yD (xP (xR (pv 1) xW rfl))) (xR (wK (qG rfl) (by rfl) T.cK yD (xP (xR (pv 2) xW rfl))) (xR (pv 3) xW rfl) rfl) rfl) rfl)))) (xl (xx (@PW.pt _ _ _ (qM (sN (kh (pv 4))) (wx (sN (kh (pv 5)))))) (xU (xu (xq (qj (K3 (kh (pv 4))) (qo (K3 (kh (pv 5)))))))) xr) B0.bl)))⟩
  refine ⟨_,(xU (xl (xk (i:=4) nd rfl rfl (xZ Hw (hr.mono (by decide)) rfl T.Hd T.Hh T.Hk .nil aq (xP (xR (pv 0) (xR (pv 1) (xR (pv 2) (xR (pv 3) xW rfl) rfl) rfl) rfl)))) B1.bl)),?_⟩;have line:=bf;have sX:=gd.eB;rw [zA] at sX;refine (zr rfl (zr rfl (zr rfl (zr rfl (tR b ll lw v aa tr tm ps ls ws ⟨rfl,hb,gd,nF,hl,hw,bD,bX,Y8,XW,dt,eB,λef H1 s1=>?_,λc lr lt xs ts ev kk ok H1 s1=>?_⟩)))))
  ·have c1:=hl.same s1;refine (zr rfl (zr rfl ⟨ll,zr rfl ⟨.inl (aB.of c1.l),λl1 h1=>?_⟩⟩));have s2:=s1.trans (xT (o:=HO.lst (ls.map λa=>V.ref a.1)) h1);have k1:upd H1 l1 (HO.lst (ls.map λa=>V.ref a.1)) l1=some (.lst (ls.map λa=>V.ref a.1)):=xQ;generalize upd H1 l1 _=H2 at s2 k1 ⊢;refine (zr rfl ⟨lw,zr rfl ⟨.inl (aB.of (hw.same s2).l),λl2 h2=>?_⟩⟩);have sn:=xT (o:=HO.lst (ws.map λa=>V.ref a.1)) h2;have k2:upd H2 l2 (HO.lst (ws.map λa=>V.ref a.1)) l2=some (.lst (ws.map λa=>V.ref a.1)):=xQ;have s3:=s2.trans sn;have k1:=sn _ _ k1;generalize upd H2 l2 _=H3 at s3 k1 k2 ⊢;refine (zr rfl (tR b l1 l2 v aa tr tm ps ls ws ⟨rfl,hb.same s3,gd,nF,⟨k1,(hl.same s3).each⟩,⟨k2,(hw.same s3).each⟩,bD,bX,dt.same s3,eB.same s3 dt,λef' H4 s4=>?_,λc' JR lt' gU lZ Oi Zv ok' H4 s4=>?_⟩))
   ·have s4:=s3.trans s4;exact (zr rfl (zr rfl (ak rfl (ak rfl (zr rfl (zr rfl (ak rfl (zr rfl (q _ s4)))))))))
   ·exfalso;subst Oi;have z:=pI Zv ok';rw [j9 s3 dt,ef] at z;cases z
  subst ev;have ef:=pI kk ok;have c1:=hl.same s1;refine (zr rfl (zr rfl ⟨ll,zr rfl ⟨.inl (aB.of c1.l),λl1 h1=>?_⟩⟩));have s2:=s1.trans (xT (o:=HO.lst (ls.map λa=>V.ref a.1)) h1);have k1:upd H1 l1 (HO.lst (ls.map λa=>V.ref a.1)) l1=some (.lst (ls.map λa=>V.ref a.1)):=xQ;generalize upd H1 l1 _=H2 at s2 k1 ⊢;refine (zr rfl ⟨lw,zr rfl ⟨.inl (aB.of (hw.same s2).l),λl2 h2=>?_⟩⟩);have sn:=xT (o:=HO.lst (ws.map λa=>V.ref a.1)) h2;have k2:upd H2 l2 (HO.lst (ws.map λa=>V.ref a.1)) l2=some (.lst (ws.map λa=>V.ref a.1)):=xQ;have s3:=s2.trans sn;have k1:=sn _ _ k1;generalize upd H2 l2 _=H3 at s3 k1 k2 ⊢;refine (zr rfl (tR b l1 l2 (.ref c) aa tr tm ps ls ws ⟨rfl,hb.same s3,gd,nF,⟨k1,(hl.same s3).each⟩,⟨k2,(hw.same s3).each⟩,bD,bX,dt.same s3,eB.same s3 dt,λef' H4 s4=>?_,λc' JR lt' gU lZ Oi Zv ok' H4 s4=>?_⟩))
  ·rw [j9 s3 dt,ef] at ef';cases ef'
  injection Oi with Oi
  subst Oi;obtain ⟨u1,u2⟩:=(kk.same s3).PB Zv;rw [<-u1,<- u2];have s4:=s3.trans s4;cases eh:bV aa (ps.map (·.2)) (ls.map (·.2)) (ws.map (·.2)) (xs.map (·.r)) (ts.map (·.2)) with
  | none=>exact (zr rfl (zr rfl (ak rfl (ak rfl (zr rfl (zr rfl (ak rfl (zr rfl (q _ s4)))))))))
  | some w=>
   refine (zr rfl (zr rfl (aA rfl (zr rfl (zr rfl (aA rfl (zr rfl ⟨_, "int", rfl,rfl,zr rfl (ak rfl (zr rfl (zr rfl ⟨rfl,?_⟩)))⟩)))))));rw [decide_eq_true rfl];exact q _ s4
theorem IH:aF ["_law_script", "_law_book_here", "_law_head", "_law_loads", "_law_wants", "_law_plan_here", "_law_lacks", "_law_purse_here", "_law_turn", "_law_thing", "_law_k", "_law_rows"] ["_law_script"] (aj Dr):=L2.bw
theorem IK (T:Tx K mg a):aW P w K mg base dQ 8 a.Fa a.GU ["_law_script"] (uz K):=by
 have Bs:=Db P w base T;have Im:=Hb P w base T;have Fd:=GA P w base T;have Il:=G9 P w base T;have GS:=Gj P w base T;have DQ:=GC P w base T;refine T.FL.ok IH (λvs H Q E h=>?_) (λbO A outer s H vs Q E hr h=>?_)
 ·obtain ⟨_,_,rfl,_⟩:=h;rfl
 ·have nd:=IH.nd;have hu:=hr.units;obtain ⟨sa,ns,rfl,hS,Tt,q⟩:=h;refine bP ?_;intro Y
  let B0:Bk Y ((nb (af Dr) 8).drop 1):=⟨_,(xU (xu (xx (wN (wQ (xZ DQ (hr.mono (by decide)) rfl T.DB T.DE T.DH .nil aq (xP (xR (pv 1) (xR (pv 3) (xR (pv 4) (xR (wS (xP (xR (pv 11) (xR (xi (xo rfl) (pv 5) xS (λ_ _=>rfl)) xW rfl) rfl))) xW rfl) rfl) rfl) rfl))))) (xU (xu (xq qL))) xr)))⟩
  let B1:Bk Y (nb (af Dr) 8):=⟨_,(xU (xl (xk (i:=11) nd rfl rfl (xm qS (xm qS (qQ (cQ rfl) (xi (xo rfl) (pv 5) xS (λ_ _=>rfl)) qh (qX (pv 10))) (xw (xP (xR (xi (xh rfl) (xi (xo rfl) (pv 5) xS (λ_ _=>rfl)) (xm wW (pv 10) xS) (λ_ _=>rfl)) xW rfl)))) (qQ (cQ rfl) (xi (xo rfl) (pv 5) xS (λ_ _=>rfl)) (qX (xm wR (pv 10) xS)) qh))) B0.bl))⟩
  let B2:Bk Y ((af Dr).drop 8):=⟨_,(xU (xl (qP PassesOwn.never rfl (IW rfl T.aU (xP (xR xS (xR (xf (xg rfl) (by rfl) T.aJ PySem.boot_len (xP (xR (xi (xo rfl) (pv 5) xS (λ_ _=>rfl)) xW rfl))) xW rfl) rfl))) (xX (i:=10) nd rfl rfl) B1.ps) (xu (xq qL))))⟩
  let B3:Bk Y ((nb (af Dr) 7).drop 1):=⟨_,(xU (xu (xx (wN (wQ (xZ DQ (hr.mono (by decide)) rfl T.DB T.DE T.DH .nil aq (xP (xR (pv 1) (xR (pv 3) (xR (pv 4) (xR (pv 9) xW rfl) rfl) rfl) rfl))))) (xU (xu (xq qL))) xr)))⟩
  let B4:Bk Y (nb (af Dr) 7):=⟨_,(xU (xl (xk (i:=9) nd rfl rfl (xZ GS (hr.mono (by decide)) rfl T.GF T.GI T.GL .nil aq (xP (xR (pv 7) (xR (pv 5) (xR (pv 3) (xR (pv 4) xW rfl) rfl) rfl) rfl)))) B3.bl))⟩
  let B5:Bk Y ((af Dr).drop 6):=⟨_,(xU (xl (xk (i:=7) nd rfl rfl (xZ Bs (hr.mono (by decide)) rfl T.Cr T.Cs T.Ct .nil aq (xP (xR (pv 0) (xR xS xW rfl) rfl)))) (xl (qP PassesOwn.never rfl (wV rfl T.aU (xP (xR xS xW rfl))) (xX (i:=8) nd rfl rfl) B4.ps) B2.bl)))⟩
  let B6:Bk Y ((af Dr).drop 5):=⟨_,(xU (xl (xx (wN (wQ (xZ DQ (hr.mono (by decide)) rfl T.DB T.DE T.DH .nil aq (xP (xR (pv 1) (xR (pv 3) (xR (pv 4) (xR (pv 5) xW rfl) rfl) rfl) rfl))))) (xU (xu (xq qL))) xr) B5.bl))⟩
  let B7:Bk Y ((af Dr).drop 4):=⟨_,(xU (xl (wG (xZ Il (hr.mono (by decide)) rfl T.HG T.HM T.HU .nil aq (xP (xR (pv 0) (xR (pv 2) (xR (pv 1) (xR (pv 3) (xR (pv 4) (xR xS xW rfl) rfl) rfl) rfl) rfl) rfl))) (wE (n:=2) rfl rfl (xY (xX (i:=5) nd rfl rfl) (xY (xX (i:=6) nd rfl rfl) wD)))) B6.bl))⟩
  let B8:Bk Y ((af Dr).drop 3):=⟨_,(xU (xl (xk (i:=4) nd rfl rfl (xZ Fd (hr.mono (by decide)) rfl T.E1 T.E5 T.E8 .nil aq (xP (xR (pv 0) (xR (pv 1) (xR (pv 2) (xR xS (xR xS xW rfl) rfl) rfl) rfl) rfl)))) B7.bl))⟩
  let B9:Bk Y ((af Dr).drop 2):=⟨_,(xU (xl (xk (i:=3) nd rfl rfl (xZ Fd (hr.mono (by decide)) rfl T.E1 T.E5 T.E8 .nil aq (xP (xR (pv 0) (xR (pv 1) (xR (pv 2) (xR xS (xR xS xW rfl) rfl) rfl) rfl) rfl)))) B8.bl))⟩
  refine ⟨_,(xU (xl (xk (i:=1) nd rfl rfl (xZ Im (hr.mono (by decide)) rfl T.HH T.HN T.HV .nil aq (xP (xR (xZ Bs (hr.mono (by decide)) rfl T.Cr T.Cs T.Ct .nil aq (xP (xR (pv 0) (xR xS xW rfl) rfl))) (xR xS (xR xS xW rfl) rfl) rfl)))) (xl (xk (i:=2) nd rfl rfl (xZ Bs (hr.mono (by decide)) rfl T.Cr T.Cs T.Ct .nil aq (xP (xR (pv 0) (xR xS xW rfl) rfl)))) B9.bl))),?_⟩;have line:=bf;refine (zr rfl ⟨sa,ns,0,rfl,hS,by decide,λp H1 hp VU s1=>?_⟩);refine ⟨p,6,14,rfl,by decide,by decide,by decide,VU,λb aa tr tm ps H2 g2 hb r1 r6 rm gd l14=>?_⟩;have s2:=dm hp s1 g2.1;have Jq:aB K H2 sa (List.map V.int ns):=aB.but hS hp λc u _ e=>s2 _ _ e;refine (zr rfl ⟨sa,ns,1,rfl,Jq,by decide,λhd H3 JV pu3 s3=>?_⟩);have Qo:aa.length<=12:=by omega
  have Ri:=hb.same s3;have Yu:∀ y∈aa,(0:Int)<=y:=λy hy=>(rm y hy).1;refine (zr rfl (zr rfl (zr rfl ⟨sa,b,hd,ex8 0 aa tr tm ps ns 3 H2 ⟨rfl,Jq,Tt,JV,s3,by decide,.inl rfl,Ri,gd,r1,Qo,pu3,λll ls H4 hll g4 LG l8 lb=>?_⟩⟩)));have s4:=dm JV s3 g4.1;have Jv:=hb.same s4;have QE:ll≠hd:=pu3.ne hll;refine (zr rfl (zr rfl (zr rfl ⟨sa,b,hd,ex8 1 aa tr tm ps ns 4 H2 ⟨rfl,Jq,Tt,JV,s4,by decide,.inr rfl,Jv,gd,r1,Qo,g4.2,λlw ws H5 hlw g5 Wg w8 wb=>?_⟩⟩)));have s5:=dm JV s3 (g4.1.trans g5.1);have hb5:=hb.same s5;have RZ:lw≠hd:=g4.2.ne hlw;have Ws:aE H5 ll ls:=⟨g5.1 _ _ QE LG.l,λa ha=>g5.aS g4.2 _ _ (LG.each a ha)⟩;refine (zr rfl (zr rfl (zr rfl (zr rfl (zr rfl ⟨sa,hd,aaI b ll lw aa tr tm ps ls ws ns 19 H2 ⟨rfl,Jq,Tt,JV,s5,by decide,hb5,gd,r1,Qo,Yu,g5.2,Ws,Wg,⟨QE,RZ⟩,l8,w8,λa ha=>(lb a ha).2.2,λa ha=>(wb a ha).2.2,λt p lr lt xs ts lk kE H6 g6 kt pa YD Lb kk pg=>?_⟩⟩)))));have MK:=hb.same (dm JV s3 ((g4.1.trans g5.1).trans g6.1));have hl6:aE H6 ll ls:=⟨g6.1 _ _ QE Ws.l,λa ha=>g6.aS g5.2 _ _ (Ws.each a ha)⟩;have ZR:aE H6 lw ws:=⟨g6.1 _ _ RZ Wg.l,λa ha=>g6.aS g5.2 _ _ (Wg.each a ha)⟩;refine (JN kt ?_);have RV:=dm JV s3 ((g4.1.trans g5.1).trans g6.1);have aeN:aB K H6 sa (List.map V.int ns):=aB.but Jq JV λc u _ e=>RV _ _ e;clear g6 g5 g4 Ws Wg LG hb5 Jv Ri;have Zf:∀ a∈ls,a.2.m<=99:=λa ha=>(lb a ha).2.2.2;have XY:∀ a∈ws,a.2.m<=99:=λa ha=>(wb a ha).2.2.2;have sX:=gd.eB;rw [zA] at sX;have bD:∀ x∈xs,x.r.bg.length<=100/\x.r.cm.length<=100:=λx hx=>by have:=YD.rows x hx;rw [this.bl,this.cl];omega
  have RN:xs.length<=60:=by have:=YD.n;omega
  have OJ:=sR Lb YD.ones l8 w8;have dp:∀ {H':Hp}{q:Addr}{ys:List RA}{l:Addr},aV H' q l lt ys ts->DT H' 4 (.ref q)/\eK H' (.ref q):=λk=>⟨DT.tup k.p (DT.two (DT.lst k.lr (cF k.rows)) (DT.lst k.ls (qY k.ones))),eK.two k.p (.lst k.ls (by rw [zA];omega))⟩;refine (zr rfl (zr rfl (zr rfl (zr rfl (tR b ll lw (.ref p) aa tr tm ps ls ws ⟨rfl,MK,gd,by omega,hl6,ZR,by omega,by omega,Zf,XY,(dp pa).1,(dp pa).2,λH7 s7=>(zr rfl (aA rfl ?_))⟩)))));refine (zr rfl ⟨sa,ns,2,rfl,aB.but Jq JV λc u _ e=>(RV.trans s7) _ _ e,by decide,λpp H8 Wn pu8 s8=>?_⟩);have VO:=s7.trans s8;have UX:=MK.same VO;have MI:=hl6.same VO;have Lw:=ZR.same VO;have pa7:=pa.same s7;have pa8:=pa.same VO;have hn:∀ x∈xs,x.b≠pp/\x.c≠pp:=λx hx=>⟨xV (pa7.rows x hx).b Wn,xV (pa7.rows x hx).c Wn⟩;have YT:ll≠pp:=xV (hl6.same s7).l Wn;have YR:lw≠pp:=xV (ZR.same s7).l Wn;refine (zr rfl ⟨by decide,by decide,?_⟩);refine wq (lo:=0) (n:=6) (λi σ H'=>(∃ v8 v9,σ=[some (.ref sa),some (.ref b),some (.ref hd),some (.ref ll),some (.ref lw),some (.ref p),some (.ref lk),some (.ref pp),v8,v9,none,none])/\Go pp H8 H') ⟨⟨_,_,rfl⟩,Go.refl pu8⟩ ?_ ?_
  ·rintro i σ H' hi ⟨⟨v8,v9,rfl⟩,g⟩;refine (zr rfl (zr rfl (zr rfl (zr rfl ⟨pp,p,ll,lw,lr,lt,ls.map λa=>V.ref a.1,ws.map λa=>V.ref a.1,xs,ts,rfl,g.2,⟨(MI.Jx g pu8).l,YT,by rw [zA];omega⟩,⟨(Lw.Jx g pu8).l,YR,by rw [zA];omega⟩,pa8.Rl g pu8 hn,hn,RN,OJ,bD,λv Vy g2 dv fv=>?_⟩))));have g3:=g.trans g2;exact (zr rfl (zr rfl (zr rfl (zr rfl (tR b ll lw v aa tr tm ps ls ws ⟨rfl,UX.aS (g3.aS pu8),gd,by omega,MI.Jx g3 pu8,Lw.Jx g3 pu8,by omega,by omega,Zf,XY,dv,fv,λH3' s3'=>(zr rfl (aA rfl ⟨⟨_,_,rfl⟩,g3.same s3'⟩))⟩)))))
  rintro σ H9 ⟨⟨v8,v9,rfl⟩,g⟩;have VW:=pa8.Rl g pu8 hn;have UW:=UX.aS (g.aS pu8);have LF:=MI.Jx g pu8;have UC:=Lw.Jx g pu8;refine (zr rfl (bH VW.p rfl ⟨lr,zr rfl ⟨.inl (aB.of VW.lr),?_⟩⟩));have lx:(xs.map λx=>V.ref x.a).length<=60:=by rw [zA];exact RN
  refine (lV rfl ⟨⟨by decide,by decide,by omega,by omega⟩,?_⟩);refine wq (lo:=1) (λi σ H'=>(∃ v8 v9 v10 v11,σ=[some (.ref sa),some (.ref b),some (.ref hd),some (.ref ll),some (.ref lw),some (.ref p),some (.ref lk),some (.ref pp),v8,v9,v10,v11])/\ay H9 H') ⟨⟨_,_,_,_,rfl⟩,ay.refl _⟩ ?_ (fun σ H' _=>q H');rintro i σ eX hi ⟨⟨v8,v9,v10,v11,rfl⟩,gj⟩;have hi:i + 1 < xs.length:=by rw [zA] at hi;omega
  have IY:=VW.same gj;refine (zr rfl (bH IY.p rfl (zr rfl (zr rfl ⟨lr,zr rfl ⟨aB.of IY.lr,λb1 y1=>?_⟩⟩))));have w1:=xT (o:=HO.lst (aN (xs.map λa=>V.ref a.a) none (some (1 + (i:Int))))) y1;have u1:upd eX b1 (HO.lst (aN (xs.map λa=>V.ref a.a) none (some (1 + (i:Int))))) b1=some (.lst (aN (xs.map λa=>V.ref a.a) none (some (1 + (i:Int))))):=xQ;generalize upd eX b1 _=fX at w1 u1 ⊢;obtain ⟨x0,Lv⟩:∃ x,xs[i]?=some x:=⟨_,zF (by omega)⟩;have mx:=zC Lv;have ei:(1 + (i:Int)) - 1=(i:Int):=by omega
  have az:bQ (xs.map λa=>V.ref a.a) ((1 + (i:Int)) - 1)=some (V.ref x0.a):=by rw [ei];exact wA (by rw [zD,Lv];rfl)
  refine (zr rfl (bH ((IY.same w1).p) rfl (zr rfl (aG rfl rfl (bL ((IY.same w1).lr) az ⟨by show 1<=sizeLine;omega,λb2 y2=>?_⟩)))));have w2:=xT (o:=HO.lst [V.ref x0.a]) y2;have u2:upd fX b2 (HO.lst [V.ref x0.a]) b2=some (.lst [V.ref x0.a]):=xQ;generalize upd fX b2 _=lI at w2 u2 ⊢;have c1:=qO (xs.map λa=>V.ref a.a) none (some (1 + (i:Int)));refine ⟨b1,b2,aG rfl rfl ⟨w2 _ _ u1,u2,by show _ + 1<=_;omega,λb3 y3=>?_⟩⟩;have w3:=xT (o:=HO.lst (aN (xs.map λa=>V.ref a.a) none (some (1 + (i:Int)))++[V.ref x0.a])) y3;have u3:upd lI b3 (HO.lst (aN (xs.map λa=>V.ref a.a) none (some (1 + (i:Int)))++[V.ref x0.a])) b3=some (.lst (aN (xs.map λa=>V.ref a.a) none (some (1 + (i:Int)))++[V.ref x0.a])):=xQ;generalize upd lI b3 _=JK at w3 u3 ⊢;have RO:=(w1.trans w2).trans w3;refine (zr rfl (bH ((IY.same RO).p) rfl (zr rfl (aG rfl rfl (zr rfl ⟨lr,zr rfl ⟨aB.of (IY.same RO).lr,λb4 y4=>?_⟩⟩)))));have w4:=xT (o:=HO.lst (aN (xs.map λa=>V.ref a.a) (some (1 + (i:Int) + 1)) none)) y4;have u4:upd JK b4 (HO.lst (aN (xs.map λa=>V.ref a.a) (some (1 + (i:Int) + 1)) none)) b4=some (.lst (aN (xs.map λa=>V.ref a.a) (some (1 + (i:Int) + 1)) none)):=xQ;generalize upd JK b4 _=Ox at w4 u4 ⊢;have c2:=qO (xs.map λa=>V.ref a.a) (some (1 + (i:Int) + 1)) none;refine ⟨b3,b4,aG rfl rfl ⟨w4 _ _ u3,u4,by rw [zU];show _ + 1 + _<=_;omega,λb5 y5=>?_⟩⟩;have w5:=xT (o:=HO.lst (aN (xs.map λa=>V.ref a.a) none (some (1 + (i:Int)))++[V.ref x0.a]++aN (xs.map λa=>V.ref a.a) (some (1 + (i:Int) + 1)) none)) y5;have u5:upd Ox b5 (HO.lst (aN (xs.map λa=>V.ref a.a) none (some (1 + (i:Int)))++[V.ref x0.a]++aN (xs.map λa=>V.ref a.a) (some (1 + (i:Int) + 1)) none)) b5=some (.lst (aN (xs.map λa=>V.ref a.a) none (some (1 + (i:Int)))++[V.ref x0.a]++aN (xs.map λa=>V.ref a.a) (some (1 + (i:Int) + 1)) none)):=xQ;generalize upd Ox b5 _=Pn at w5 u5 ⊢;have oZ:=gj.trans ((RO.trans w4).trans w5);have K4:=VW.same oZ;have d15:=cF K4.rows;refine (zr rfl (zr rfl (zr rfl (zr rfl (zr rfl (bH K4.p rfl ⟨by show 2<=sizeLine;omega,λt ht=>?_⟩))))));have sn:=xT (o:=HO.tup [V.ref b5,V.ref lt]) ht;have Zj:upd Pn t (HO.tup [V.ref b5,V.ref lt]) t=some (.tup [V.ref b5,V.ref lt]):=xQ;have dr:DT Pn 3 (.ref b5):=DT.lst u5 (mh d15 (d15 _ (xF mx)));have dt:DT Pn 3 (.ref lt):=DT.lst K4.ls (qY K4.ones);generalize upd Pn t _=WQ at sn Zj ⊢;have Qg:=oZ.trans sn;exact (tR b ll lw (.ref t) aa tr tm ps ls ws ⟨rfl,UW.same Qg,gd,by omega,LF.same Qg,UC.same Qg,by omega,by omega,Zf,XY,DT.tup Zj (DT.two (dr.same sn) (dt.same sn)),eK.two Zj (.lst (sn _ _ K4.ls) (by rw [zA];omega)),λRK RU=>(zr rfl (aA rfl ⟨⟨_,_,_,_,rfl⟩,Qg.trans RU⟩))⟩)
end
theorem all_mk {l:PySem.W.OpenLaw}{w:World}{K:PySem.W.Frag}{h:Heap}{mg:Str->Option Value}{fa DO Ea EK DN Eb CV Ef D9 DL EH D8 EI DJ C1 Cc CQ Df Cu Cb D7 Dg CS Gu CB DI Ec DM Ee EJ CT Ed Di Fo CU CD DK CC CW Dh DP IJ:Addr}(X:K.In h)(G:h.Ns mainGlobals mg)(hfa:mg "law" = some (.ref fa))
  {BY Ck CJ BX Cl AV Cp Cj BV CF Ci CG BT Bh Ap AR BB AB Ao Ch BC AS Dv AM BS Cm BW Co CI AT Cn BE CZ AU AO BU AN AW BD BZ GU:FuncData}
  (Bb:zT K mainGlobals "_law_purse" = some (some (.ref DO))) (Bz:bq K "_law_purse" "_law_purse" qZ DO BY)
  (Bm:zT K mainGlobals "_law_take" = some (some (.ref Ea))) (BM:bq K "_law_take" "_law_take" qk Ea Ck)
  (BI:zT K mainGlobals "_law_far" = some (some (.ref EK))) (Cg:bq K "_law_far" "_law_far" Dy EK CJ)
  (Ba:zT K mainGlobals "_law_rooms" = some (some (.ref DN))) (By:bq K "_law_rooms" "_law_rooms" qa DN BX)
  (Bn:zT K mainGlobals "_law_step" = some (some (.ref Eb))) (BN:bq K "_law_step" "_law_step" qm Eb Cl)
  (Av:zT K mainGlobals "_law_meetings" = some (some (.ref CV))) (AG:bq K "_law_meetings" "_law_meetings" xy CV AV)
  (Br:zT K mainGlobals "_law_book" = some (some (.ref Ef))) (BR:bq K "_law_book" "_law_book" CO Ef Cp)
  (Bl:zT K mainGlobals "_law_time" = some (some (.ref D9))) (BL:bq K "_law_time" "_law_time" qD D9 Cj)
  (A8:zT K mainGlobals "_law_whole" = some (some (.ref DL))) (Bw:bq K "_law_whole" "_law_whole" Dx DL BV)
  (BF:zT K mainGlobals "is_whole" = some (some (.ref EH))) (Cd:bq K "is_whole" "is_whole" EE EH CF)
  (Bj:zT K mainGlobals "is_within" = some (some (.ref D8))) (BK:bq K "is_within" "is_within" D3 D8 Ci)
  (BG:zT K mainGlobals "is_count" = some (some (.ref EI))) (Ce:bq K "is_count" "is_count" EF EI CG)
  (AY:zT K mainGlobals "are_counts" = some (some (.ref DJ))) (Bu:bq K "are_counts" "are_counts" CY DJ BT)
  (AA:zT K mainGlobals "has_row_form" = some (some (.ref C1))) (AQ:bq K "has_row_form" "has_row_form" qN C1 Bh)
  (Ag:zT K mainGlobals "has_straight_form" = some (some (.ref Cc))) (Ai:bq K "has_straight_form" "has_straight_form" wu Cc Ap)
  (Aq:zT K mainGlobals "has_plan_form" = some (some (.ref CQ))) (AC:bq K "has_plan_form" "has_plan_form" wk CQ AR)
  (AI:zT K mainGlobals "is_straight" = some (some (.ref Df))) (Bd:bq K "is_straight" "is_straight" C9 Df BB)
  (Aj:zT K mainGlobals "may_be_straight" = some (some (.ref Cu))) (An:bq K "may_be_straight" "may_be_straight" wg Cu AB)
  (Af:zT K mainGlobals "is_within_meeting" = some (some (.ref Cb))) (Ah:bq K "is_within_meeting" "is_within_meeting" wM Cb Ao)
  (Bi:zT K mainGlobals "of_walker" = some (some (.ref D7))) (BJ:bq K "of_walker" "of_walker" C7 D7 Ch)
  (AJ:zT K mainGlobals "bags_behind" = some (some (.ref Dg))) (Be:bq K "bags_behind" "bags_behind" ww Dg BC)
  (Ar:zT K mainGlobals "are_rows_kept" = some (some (.ref CS))) (AD:bq K "are_rows_kept" "are_rows_kept" wX CS AS)
  (CP:zT K mainGlobals "totals" = some (some (.ref Gu))) (C3:bq K "totals" "totals" D2 Gu Dv)
  (Ak:zT K mainGlobals "are_upto_manys" = some (some (.ref CB))) (Ax:bq K "are_upto_manys" "are_upto_manys" qb CB AM)
  (AX:zT K mainGlobals "plan_worth" = some (some (.ref DI))) (Bt:bq K "plan_worth" "plan_worth" wj DI BS)
  (Bo:zT K mainGlobals "_law_sack" = some (some (.ref Ec))) (BO:bq K "_law_sack" "_law_sack" wn Ec Cm)
  (A9:zT K mainGlobals "_law_sacks" = some (some (.ref DM))) (Bx:bq K "_law_sacks" "_law_sacks" qE DM BW)
  (Bq:zT K mainGlobals "_law_goes" = some (some (.ref Ee))) (BQ:bq K "_law_goes" "_law_goes" qW Ee Co)
  (BH:zT K mainGlobals "_law_row" = some (some (.ref EJ))) (Cf:bq K "_law_row" "_law_row" wC EJ CI)
  (As:zT K mainGlobals "_law_straight" = some (some (.ref CT))) (AE:bq K "_law_straight" "_law_straight" wI CT AT)
  (Bp:zT K mainGlobals "_law_plan" = some (some (.ref Ed))) (BP:bq K "_law_plan" "_law_plan" wo Ed Cn)
  (AL:zT K mainGlobals "_law_counts" = some (some (.ref Di))) (Bg:bq K "_law_counts" "_law_counts" qg Di BE)
  (Cq:zT K mainGlobals "_law_of" = some (some (.ref Fo))) (CL:bq K "_law_of" "_law_of" Eg Fo CZ)
  (Au:zT K mainGlobals "_law_row_goes" = some (some (.ref CU))) (AF:bq K "_law_row_goes" "_law_row_goes" xt CU AU)
  (Am:zT K mainGlobals "_law_once_goes" = some (some (.ref CD))) (Az:bq K "_law_once_goes" "_law_once_goes" wU CD AO)
  (AZ:zT K mainGlobals "_law_worth" = some (some (.ref DK))) (Bv:bq K "_law_worth" "_law_worth" wH DK BU)
  (Al:zT K mainGlobals "_law_otherwise" = some (some (.ref CC))) (Ay:bq K "_law_otherwise" "_law_otherwise" qd CC AN)
  (Aw:zT K mainGlobals "_law_in_a_row" = some (some (.ref CW))) (AH:bq K "_law_in_a_row" "_law_in_a_row" wB CW AW)
  (AK:zT K mainGlobals "_law_spoilt" = some (some (.ref Dh))) (Bf:bq K "_law_spoilt" "_law_spoilt" xz Dh BD)
  (Bc:zT K mainGlobals "_law_alike" = some (some (.ref DP))) (BA:bq K "_law_alike" "_law_alike" qr DP BZ)
  (Fa:zT K mainGlobals "law" = some (some (.ref IJ))) (FL:bq K "law" "law" Dr IJ GU)
  (z_all:zT K mainGlobals "all" = some none)
  (z_bool:zT K mainGlobals "bool" = some none)
  (z_int:zT K mainGlobals "int" = some none)
  (z_isinstance:zT K mainGlobals "isinstance" = some none)
  (z_len:zT K mainGlobals "len" = some none)
  (z_list:zT K mainGlobals "list" = some none)
  (z_max:zT K mainGlobals "max" = some none)
  (z_min:zT K mainGlobals "min" = some none)
  (z_range:zT K mainGlobals "range" = some none)
  (z_set:zT K mainGlobals "set" = some none)
  (z_sorted:zT K mainGlobals "sorted" = some none)
  (z_sum:zT K mainGlobals "sum" = some none)
  (z_tuple:zT K mainGlobals "tuple" = some none)
  (z_zip:zT K mainGlobals "zip" = some none) :
  ∃ fd:FuncData,(∀ (s:Shared) (v:Value),BindsTo s fd ⟨[v],[]⟩ [("_law_script", v)])/\∀ base:Heap,K.In base->base.Ns mainGlobals mg->aW l.prog w K mg base dQ 8 fa fd ["_law_script"] (uz K):=by
 have e:=hfa.symm.trans (ze X G Fa);cases e;have Ht:=Bz.binds (ps:=["_law_script", "_law_k"]) λ_ _ _ _ _ _ us hl=>MV hl λ_ _=>rfl;have HZ:=BM.binds (ps:=["_law_purse_here", "_law_many"]) λ_ _ _ _ _ _ us hl=>MV hl λ_ _=>rfl;have IB:=Cg.binds (ps:=["_law_purse_here"]) λ_ _ _ _ _ _ us hl=>RQ hl λ_=>rfl;have Hs:=By.binds (ps:=["_law_purse_here", "_law_walkers"]) λ_ _ _ _ _ _ us hl=>MV hl λ_ _=>rfl;have Ia:=BN.binds (ps:=["_law_purse_here"]) λ_ _ _ _ _ _ us hl=>RQ hl λ_=>rfl;have F9:=AG.binds (ps:=["_law_purse_here", "_law_walkers", "_law_most"]) λ_ _ _ _ _ _ us hl=>MB hl λ_ _ _=>rfl;have Ig:=BR.binds (ps:=["_law_purse_here", "_law_most_walkers", "_law_most_meetings"]) λ_ _ _ _ _ _ us hl=>MB hl λ_ _ _=>rfl;have HY:=BL.binds (ps:=["_law_purse_here", "_law_book_here", "_law_later"]) λ_ _ _ _ _ _ us hl=>MB hl λ_ _ _=>rfl;have Hq:=Bw.binds (ps:=["_law_thing"]) λ_ _ _ _ _ _ us hl=>RQ hl λ_=>rfl;have Iy:=Cd.binds (ps:=["thing"]) λ_ _ _ _ _ _ us hl=>RQ hl λ_=>rfl;have HX:=BK.binds (ps:=["thing", "least", "most"]) λ_ _ _ _ _ _ us hl=>MB hl λ_ _ _=>rfl;have Iz:=Ce.binds (ps:=["thing"]) λ_ _ _ _ _ _ us hl=>RQ hl λ_=>rfl;have Hn:=Bu.binds (ps:=["thing", "size"]) λ_ _ _ _ _ _ us hl=>MV hl λ_ _=>rfl;have Gv:=AQ.binds (ps:=["loads", "wants", "thing"]) λ_ _ _ _ _ _ us hl=>MB hl λ_ _ _=>rfl;have Et:=Ai.binds (ps:=["loads", "wants", "thing"]) λ_ _ _ _ _ _ us hl=>MB hl λ_ _ _=>rfl;have F4:=AC.binds (ps:=["book", "loads", "wants", "thing"]) λ_ _ _ _ _ _ us hl=>MA hl λ_ _ _ _=>rfl;have GM:=Bd.binds (ps:=["load", "want"]) λ_ _ _ _ _ _ us hl=>MV hl λ_ _=>rfl;have E9:=An.binds (ps:=["loads", "wants", "straight"]) λ_ _ _ _ _ _ us hl=>MB hl λ_ _ _=>rfl;have Es:=Ah.binds (ps:=["meeting", "loads", "wants", "row"]) λ_ _ _ _ _ _ us hl=>MA hl λ_ _ _ _=>rfl;have HW:=BJ.binds (ps:=["parts", "numbers", "walker"]) λ_ _ _ _ _ _ us hl=>MB hl λ_ _ _=>rfl;have GN:=Be.binds (ps:=["bags", "meeting", "loads", "wants", "row"]) λ_ _ _ _ _ _ us hl=>X6 hl λ_ _ _ _ _=>rfl;have F5:=AD.binds (ps:=["book", "loads", "wants", "rows"]) λ_ _ _ _ _ _ us hl=>MA hl λ_ _ _ _=>rfl;have II:=C3.binds (ps:=["size", "rows", "straight"]) λ_ _ _ _ _ _ us hl=>MB hl λ_ _ _=>rfl;have Fp:=Ax.binds (ps:=["sums", "parts"]) λ_ _ _ _ _ _ us hl=>MV hl λ_ _=>rfl;have Hm:=Bt.binds (ps:=["book", "loads", "wants", "thing"]) λ_ _ _ _ _ _ us hl=>MA hl λ_ _ _ _=>rfl;have Ic:=BO.binds (ps:=["_law_purse_here", "_law_book_here", "_law_walkers", "_law_later"]) λ_ _ _ _ _ _ us hl=>MA hl λ_ _ _ _=>rfl;have Hr:=Bx.binds (ps:=["_law_script", "_law_book_here", "_law_head", "_law_first", "_law_later"]) λ_ _ _ _ _ _ us hl=>X6 hl λ_ _ _ _ _=>rfl;have Ie:=BQ.binds (ps:=["_law_sacks_here", "_law_rests", "_law_walker", "_law_when", "_law_later"]) λ_ _ _ _ _ _ us hl=>X6 hl λ_ _ _ _ _=>rfl;have IA:=Cf.binds (ps:=["_law_purse_here", "_law_rooms_here", "_law_meeting", "_law_loads", "_law_wants", "_law_state"]) λ_ _ _ _ _ _ us hl=>X5 hl λ_ _ _ _ _ _=>rfl;have F6:=AE.binds (ps:=["_law_purse_here", "_law_loads", "_law_wants", "_law_state"]) λ_ _ _ _ _ _ us hl=>MA hl λ_ _ _ _=>rfl;have Id:=BP.binds (ps:=["_law_script", "_law_head", "_law_book_here", "_law_loads", "_law_wants", "_law_first"]) λ_ _ _ _ _ _ us hl=>X5 hl λ_ _ _ _ _ _=>rfl;have GP:=Bg.binds (ps:=["_law_thing", "_law_most"]) λ_ _ _ _ _ _ us hl=>MV hl λ_ _=>rfl;have IG:=CL.binds (ps:=["_law_walker", "_law_sacks_here", "_law_counted"]) λ_ _ _ _ _ _ us hl=>MB hl λ_ _ _=>rfl;have F8:=AF.binds (ps:=["_law_rooms_here", "_law_meeting", "_law_loads", "_law_wants", "_law_row_here", "_law_state"]) λ_ _ _ _ _ _ us hl=>X5 hl λ_ _ _ _ _ _=>rfl;have Fs:=Az.binds (ps:=["_law_loads", "_law_wants", "_law_one", "_law_state"]) λ_ _ _ _ _ _ us hl=>MA hl λ_ _ _ _=>rfl;have Ho:=Bv.binds (ps:=["_law_book_here", "_law_loads", "_law_wants", "_law_plan_here"]) λ_ _ _ _ _ _ us hl=>MA hl λ_ _ _ _=>rfl;have Fq:=Ay.binds (ps:=["_law_purse_here", "_law_old"]) λ_ _ _ _ _ _ us hl=>MV hl λ_ _=>rfl;have Ga:=AH.binds (ps:=["_law_purse_here", "_law_rows"]) λ_ _ _ _ _ _ us hl=>MV hl λ_ _=>rfl;have GO:=Bf.binds (ps:=["_law_purse_here", "_law_plan_here", "_law_loads", "_law_wants"]) λ_ _ _ _ _ _ us hl=>MA hl λ_ _ _ _=>rfl;have Hu:=BA.binds (ps:=["_law_book_here", "_law_loads", "_law_wants", "_law_thing"]) λ_ _ _ _ _ _ us hl=>MA hl λ_ _ _ _=>rfl;have IL:=FL.binds (ps:=["_law_script"]) λ_ _ _ _ _ _ us hl=>RQ hl λ_=>rfl;have T:Tx K mg ⟨DO,BY,Ea,Ck,EK,CJ,DN,BX,Eb,Cl,CV,AV,Ef,Cp,D9,Cj,DL,BV,EH,CF,D8,Ci,EI,CG,DJ,BT,C1,Bh,Cc,Ap,CQ,AR,Df,BB,Cu,AB,Cb,Ao,D7,Ch,Dg,BC,CS,AS,Gu,Dv,CB,AM,DI,BS,Ec,Cm,DM,BW,Ee,Co,EJ,CI,CT,AT,Ed,Cn,Di,BE,Fo,CZ,CU,AU,CD,AO,DK,BU,CC,AN,CW,AW,Dh,BD,DP,BZ,fa,GU⟩:=⟨Bz,Ht,ze X G Bb,Bz.kp,BM,HZ,ze X G Bm,BM.kp,Cg,IB,ze X G BI,Cg.kp,By,Hs,ze X G Ba,By.kp,BN,Ia,ze X G Bn,BN.kp,AG,F9,ze X G Av,AG.kp,BR,Ig,ze X G Br,BR.kp,BL,HY,ze X G Bl,BL.kp,Bw,Hq,ze X G A8,Bw.kp,Cd,Iy,ze X G BF,Cd.kp,BK,HX,ze X G Bj,BK.kp,Ce,Iz,ze X G BG,Ce.kp,Bu,Hn,ze X G AY,Bu.kp,AQ,Gv,ze X G AA,AQ.kp,Ai,Et,ze X G Ag,Ai.kp,AC,F4,ze X G Aq,AC.kp,Bd,GM,ze X G AI,Bd.kp,An,E9,ze X G Aj,An.kp,Ah,Es,ze X G Af,Ah.kp,BJ,HW,ze X G Bi,BJ.kp,Be,GN,ze X G AJ,Be.kp,AD,F5,ze X G Ar,AD.kp,C3,II,ze X G CP,C3.kp,Ax,Fp,ze X G Ak,Ax.kp,Bt,Hm,ze X G AX,Bt.kp,BO,Ic,ze X G Bo,BO.kp,Bx,Hr,ze X G A9,Bx.kp,BQ,Ie,ze X G Bq,BQ.kp,Cf,IA,ze X G BH,Cf.kp,AE,F6,ze X G As,AE.kp,BP,Id,ze X G Bp,BP.kp,Bg,GP,ze X G AL,Bg.kp,CL,IG,ze X G Cq,CL.kp,AF,F8,ze X G Au,AF.kp,Az,Fs,ze X G Am,Az.kp,Bv,Ho,ze X G AZ,Bv.kp,Ay,Fq,ze X G Al,Ay.kp,AH,Ga,ze X G Aw,AH.kp,Bf,GO,ze X G AK,Bf.kp,BA,Hu,ze X G Bc,BA.kp,FL,IL,ze X G Fa,FL.kp,yJ X G z_all,yJ X G z_bool,yJ X G z_int,yJ X G z_isinstance,yJ X G z_len,yJ X G z_list,yJ X G z_max,yJ X G z_min,yJ X G z_range,yJ X G z_set,yJ X G z_sorted,yJ X G z_sum,yJ X G z_tuple,yJ X G z_zip⟩;obtain ⟨_,_,_,_,_,_,_,_,_,rfl,_,_⟩:=FL.ex;exact ⟨_,λs v=>.of_eq rfl,λbase _ _=>IK _ _ base T⟩
theorem walk {l:PySem.W.OpenLaw}{q:Program}{loose:List Str}{XP:(Str->Option Value)->Heap->Prop}{YP:World->Heap->Prop}{d:DefRec}{K:Params->PySem.W.Frag}(hn:l.most=some 63)(UQ:d.params.defaults=[])
  (hY:∀ (w:World) (h:Heap),YP w h->(K w.params).In h)
  (F:∀ (w:World) (mg:Str->Option Value) (fa:Addr) (h:Heap),(K w.params).In h->h.Ns mainGlobals mg->mg d.name=some (.ref fa) ->
   ∃ fd:FuncData,(∀ (s:Shared) (u:Value),BindsTo s fd ⟨[u],[]⟩ [("_law_script", u)])/\∀ base:Heap,(K w.params).In base->base.Ns mainGlobals mg->aW l.prog w (K w.params) mg base dQ 8 fa fd ["_law_script"] (uz (K w.params))) :
  PySem.W.WalkO q loose XP YP l.row.toRowW d [] (λf vs=>PySem.call f vs):=
 L2.MR (n:=63) (k:=8) (x := "_law_script") (CX:=λ_=>dQ) (sp:=λw=>uz (K w.params)) hn (by decide) UQ ⟨rfl,by decide,by decide,rfl⟩ hY F (λ_ _ a ns hl _ hS=>⟨a,ns,rfl,hS,hl,λ_=>rfl⟩) λ_ _ _ _ _ z=>z
end Sm
namespace PySem.W.Fast
def tw1088326726668458593:Nat:=0
def tw18093784721589076103:Nat:=0
def tw9199619930640967964:Nat:=0
def tw5027961039837931540:Nat:=0
def tw1607489534861910083:Nat:=0
def tw15247938370548197610:Nat:=0
def tw10249582473705370733:Nat:=0
def tw8659997575845356511:Nat:=0
def tw12189956757471517473:Nat:=0
def tw11569617459826318200:Nat:=0
def tw16837518426076194722:Nat:=0
def tw8177140195405123615:Nat:=0
def tw6726969845101403109:Nat:=0
def tw11630761076813075063:Nat:=0
def tw6101552327024034566:Nat:=0
def tw13021171345242687078:Nat:=0
def tw12355003310931790710:Nat:=0
def tw8106598546315353302:Nat:=0
def tw15195284477268773893:Nat:=0
def tw4792156847889045861:Nat:=0
def tw2614691035734441291:Nat:=0
def tw2463881340155544384:Nat:=0
def tw15489542877321721429:Nat:=0
def tw16978855180484976587:Nat:=0
def tw10211396271284075053:Nat:=0
def tw11139814691202712999:Nat:=0
def tw3842678854218951923:Nat:=0
def tw14716541807992157376:Nat:=0
def tw449412842333897781:Nat:=0
def tw6683816349924845458:Nat:=0
def tw7651285659048964654:Nat:=0
def tw12613106966464934281:Nat:=0
def tw1229488900657631631:Nat:=0
def tw15983984115720217044:Nat:=0
def tw6227337910096771380:Nat:=0
def tw5114770459996380748:Nat:=0
def tw8969924372455825613:Nat:=0
def tw16543772053074691449:Nat:=0
def tw3014052321667677019:Nat:=0
def tw14203232790558555326:Nat:=0
def tw14447686721316767266:Nat:=0
def tw13055834301022676787:Nat:=0
def tw8124248163223393758:Nat:=0
def tw18303449329948542191:Nat:=0
def tw14589836348653058061:Nat:=0
def tw7903233633099046193:Nat:=0
def tw5025960595351820366:Nat:=0
def tw13895932843529149003:Nat:=0
def tw8252045221499598658:Nat:=0
def tw17688009484013523991:Nat:=0
def tw2158858366335340418:Nat:=0
def tw2740932335822470206:Nat:=0
def tw14805374761818900973:Nat:=0
def tw7281957796594955960:Nat:=0
def tw9412223057962619090:Nat:=0
def tw18185220640133004714:Nat:=0
def tw2665577420174588407:Nat:=0
def tw16506861851639605565:Nat:=0
def tw1492035212961223128:Nat:=0
def tw15444595109887066149:Nat:=0
def tw9938365022882793176:Nat:=0
def tw10653062006741309759:Nat:=0
def tw7683391870386944749:Nat:=0
def tw1288450751981236447:Nat:=0
def tw1098252681912652467:Nat:=0
def tw10938076669029629958:Nat:=0
def tw7836648159706090139:Nat:=0
def tw12971254040599504088:Nat:=0
def tw1833167100062013862:Nat:=0
def tw13069171565367358667:Nat:=0
def tw477831676335882164:Nat:=0
def tw6463082861201311686:Nat:=0
def tw12857760106294523928:Nat:=0
def tw14731540063413747752:Nat:=0
def tw11570997736671385964:Nat:=0
def tw17394435839971262522:Nat:=0
def tw3941625132767512936:Nat:=0
def tw7963918717059173292:Nat:=0
def tw14089282411768780390:Nat:=0
def tw9010247781290604069:Nat:=0
def tw6454126045330736149:Nat:=0
def tw8576195796660214873:Nat:=0
def tw11231077441114982839:Nat:=0
def tw3516315650850510308:Nat:=0
def tw1584620780735040530:Nat:=0
def tw17172701570158120888:Nat:=0
def tw17020823511232499673:Nat:=0
def tw10559766163315213106:Nat:=0
def tw15194570645040803693:Nat:=0
def tw17197887492466341484:Nat:=0
def tw11310586697924615550:Nat:=0
def tw12372291215496253697:Nat:=0
def tw5246956628622917885:Nat:=0
def tw290397149913447828:Nat:=0
def tw14350835607518017731:Nat:=0
def tw12411430060229268936:Nat:=0
def tw6936867475783667705:Nat:=0
def tw12294418993545254461:Nat:=0
def tw2716639136284897868:Nat:=0
def tw12908089710588972239:Nat:=0
def tw15419559095092519226:Nat:=0
def tw1086839977242099154:Nat:=0
def tw5421550978590573482:Nat:=0
def tw6999049574389817018:Nat:=0
def tw17797635544999451084:Nat:=0
def tw18386374279826866773:Nat:=0
def tw8563920344402136912:Nat:=0
def tw3322422534699500216:Nat:=0
def tw10137934555987760330:Nat:=0
def tw7633460090754154367:Nat:=0
def tw699164351246746908:Nat:=0
def tw13419771558297570679:Nat:=0
def tw10432321829609941903:Nat:=0
def tw3596299603332357867:Nat:=0
def tw13062814776199594526:Nat:=0
def tw10799628330994314153:Nat:=0
def tw5921629980896333415:Nat:=0
def tw3911348015285500053:Nat:=0
end PySem.W.Fast
open PySem PySem.W PyProof.Rows
set_option maxRecDepth 100000 in
set_option maxHeartbeats 0 in
theorem PySem.Challenge.cw_satchelmeet_k37_whole_plans_looked_at_holds : PySem.Challenge.rw_satchelmeet_k37_whole_plans_looked_at.Holds := by
 w_on;o_law;k_head;(case hw=>w_witness2)
 k_fill
 refine Sm.walk (l:=PySem.Challenge.rw_satchelmeet_k37_whole_plans_looked_at) rfl rfl (λw h Y=>PySem.W.kIn_of Y) ?F
 case F=>
  intro w mg fa h KX G hmg
  refine' Sm.all_mk KX G hmg ?Bb ?Bz ?Bm ?BM ?BI ?Cg ?Ba ?By ?Bn ?BN ?Av ?AG ?Br ?BR ?Bl ?BL ?A8 ?Bw ?BF ?Cd ?Bj ?BK ?BG ?Ce ?AY ?Bu ?AA ?AQ ?Ag ?Ai ?Aq ?AC ?AI ?Bd ?Aj ?An ?Af ?Ah ?Bi ?BJ ?AJ ?Be ?Ar ?AD ?CP ?C3 ?Ak ?Ax ?AX ?Bt ?Bo ?BO ?A9 ?Bx ?Bq ?BQ ?BH ?Cf ?As ?AE ?Bp ?BP ?AL ?Bg ?Cq ?CL ?Au ?AF ?Am ?Az ?AZ ?Bv ?Al ?Ay ?Aw ?AH ?AK ?Bf ?Bc ?BA ?Fa ?FL ?z_all ?z_bool ?z_int ?z_isinstance ?z_len ?z_list ?z_max ?z_min ?z_range ?z_set ?z_sorted ?z_sum ?z_tuple ?z_zip
  (case Bb=>k_is)
  (case Bz=>refine' L2.fun_mk ?x1 ?y1 ?z1;(case x1=>k_is);(case y1=>k_is);(case z1=>k_is))
  (case Bm=>k_is)
  (case BM=>refine' L2.fun_mk ?x3 ?y3 ?z3;(case x3=>k_is);(case y3=>k_is);(case z3=>k_is))
  (case BI=>k_is)
  (case Cg=>refine' L2.fun_mk ?x5 ?y5 ?z5;(case x5=>k_is);(case y5=>k_is);(case z5=>k_is))
  (case Ba=>k_is)
  (case By=>refine' L2.fun_mk ?x7 ?y7 ?z7;(case x7=>k_is);(case y7=>k_is);(case z7=>k_is))
  (case Bn=>k_is)
  (case BN=>refine' L2.fun_mk ?x9 ?y9 ?z9;(case x9=>k_is);(case y9=>k_is);(case z9=>k_is))
  (case Av=>k_is)
  (case AG=>refine' L2.fun_mk ?x11 ?y11 ?z11;(case x11=>k_is);(case y11=>k_is);(case z11=>k_is))
  (case Br=>k_is)
  (case BR=>refine' L2.fun_mk ?x13 ?y13 ?z13;(case x13=>k_is);(case y13=>k_is);(case z13=>k_is))
  (case Bl=>k_is)
  (case BL=>refine' L2.fun_mk ?x15 ?y15 ?z15;(case x15=>k_is);(case y15=>k_is);(case z15=>k_is))
  (case A8=>k_is)
  (case Bw=>refine' L2.fun_mk ?x17 ?y17 ?z17;(case x17=>k_is);(case y17=>k_is);(case z17=>k_is))
  (case BF=>k_is)
  (case Cd=>refine' L2.fun_mk ?x19 ?y19 ?z19;(case x19=>k_is);(case y19=>k_is);(case z19=>k_is))
  (case Bj=>k_is)
  (case BK=>refine' L2.fun_mk ?x21 ?y21 ?z21;(case x21=>k_is);(case y21=>k_is);(case z21=>k_is))
  (case BG=>k_is)
  (case Ce=>refine' L2.fun_mk ?x23 ?y23 ?z23;(case x23=>k_is);(case y23=>k_is);(case z23=>k_is))
  (case AY=>k_is)
  (case Bu=>refine' L2.fun_mk ?x25 ?y25 ?z25;(case x25=>k_is);(case y25=>k_is);(case z25=>k_is))
  (case AA=>k_is)
  (case AQ=>refine' L2.fun_mk ?x27 ?y27 ?z27;(case x27=>k_is);(case y27=>k_is);(case z27=>k_is))
  (case Ag=>k_is)
  (case Ai=>refine' L2.fun_mk ?x29 ?y29 ?z29;(case x29=>k_is);(case y29=>k_is);(case z29=>k_is))
  (case Aq=>k_is)
  (case AC=>refine' L2.fun_mk ?x31 ?y31 ?z31;(case x31=>k_is);(case y31=>k_is);(case z31=>k_is))
  (case AI=>k_is)
  (case Bd=>refine' L2.fun_mk ?x33 ?y33 ?z33;(case x33=>k_is);(case y33=>k_is);(case z33=>k_is))
  (case Aj=>k_is)
  (case An=>refine' L2.fun_mk ?x35 ?y35 ?z35;(case x35=>k_is);(case y35=>k_is);(case z35=>k_is))
  (case Af=>k_is)
  (case Ah=>refine' L2.fun_mk ?x37 ?y37 ?z37;(case x37=>k_is);(case y37=>k_is);(case z37=>k_is))
  (case Bi=>k_is)
  (case BJ=>refine' L2.fun_mk ?x39 ?y39 ?z39;(case x39=>k_is);(case y39=>k_is);(case z39=>k_is))
  (case AJ=>k_is)
  (case Be=>refine' L2.fun_mk ?x41 ?y41 ?z41;(case x41=>k_is);(case y41=>k_is);(case z41=>k_is))
  (case Ar=>k_is)
  (case AD=>refine' L2.fun_mk ?x43 ?y43 ?z43;(case x43=>k_is);(case y43=>k_is);(case z43=>k_is))
  (case CP=>k_is)
  (case C3=>refine' L2.fun_mk ?x45 ?y45 ?z45;(case x45=>k_is);(case y45=>k_is);(case z45=>k_is))
  (case Ak=>k_is)
  (case Ax=>refine' L2.fun_mk ?x47 ?y47 ?z47;(case x47=>k_is);(case y47=>k_is);(case z47=>k_is))
  (case AX=>k_is)
  (case Bt=>refine' L2.fun_mk ?x49 ?y49 ?z49;(case x49=>k_is);(case y49=>k_is);(case z49=>k_is))
  (case Bo=>k_is)
  (case BO=>refine' L2.fun_mk ?x51 ?y51 ?z51;(case x51=>k_is);(case y51=>k_is);(case z51=>k_is))
  (case A9=>k_is)
  (case Bx=>refine' L2.fun_mk ?x53 ?y53 ?z53;(case x53=>k_is);(case y53=>k_is);(case z53=>k_is))
  (case Bq=>k_is)
  (case BQ=>refine' L2.fun_mk ?x55 ?y55 ?z55;(case x55=>k_is);(case y55=>k_is);(case z55=>k_is))
  (case BH=>k_is)
  (case Cf=>refine' L2.fun_mk ?x57 ?y57 ?z57;(case x57=>k_is);(case y57=>k_is);(case z57=>k_is))
  (case As=>k_is)
  (case AE=>refine' L2.fun_mk ?x59 ?y59 ?z59;(case x59=>k_is);(case y59=>k_is);(case z59=>k_is))
  (case Bp=>k_is)
  (case BP=>refine' L2.fun_mk ?x61 ?y61 ?z61;(case x61=>k_is);(case y61=>k_is);(case z61=>k_is))
  (case AL=>k_is)
  (case Bg=>refine' L2.fun_mk ?x63 ?y63 ?z63;(case x63=>k_is);(case y63=>k_is);(case z63=>k_is))
  (case Cq=>k_is)
  (case CL=>refine' L2.fun_mk ?x65 ?y65 ?z65;(case x65=>k_is);(case y65=>k_is);(case z65=>k_is))
  (case Au=>k_is)
  (case AF=>refine' L2.fun_mk ?x67 ?y67 ?z67;(case x67=>k_is);(case y67=>k_is);(case z67=>k_is))
  (case Am=>k_is)
  (case Az=>refine' L2.fun_mk ?x69 ?y69 ?z69;(case x69=>k_is);(case y69=>k_is);(case z69=>k_is))
  (case AZ=>k_is)
  (case Bv=>refine' L2.fun_mk ?x71 ?y71 ?z71;(case x71=>k_is);(case y71=>k_is);(case z71=>k_is))
  (case Al=>k_is)
  (case Ay=>refine' L2.fun_mk ?x73 ?y73 ?z73;(case x73=>k_is);(case y73=>k_is);(case z73=>k_is))
  (case Aw=>k_is)
  (case AH=>refine' L2.fun_mk ?x75 ?y75 ?z75;(case x75=>k_is);(case y75=>k_is);(case z75=>k_is))
  (case AK=>k_is)
  (case Bf=>refine' L2.fun_mk ?x77 ?y77 ?z77;(case x77=>k_is);(case y77=>k_is);(case z77=>k_is))
  (case Bc=>k_is)
  (case BA=>refine' L2.fun_mk ?x79 ?y79 ?z79;(case x79=>k_is);(case y79=>k_is);(case z79=>k_is))
  (case Fa=>k_is)
  (case FL=>refine' L2.fun_mk ?x81 ?y81 ?z81;(case x81=>k_is);(case y81=>k_is);(case z81=>k_is))
  (case z_all=>k_is)
  (case z_bool=>k_is)
  (case z_int=>k_is)
  (case z_isinstance=>k_is)
  (case z_len=>k_is)
  (case z_list=>k_is)
  (case z_max=>k_is)
  (case z_min=>k_is)
  (case z_range=>k_is)
  (case z_set=>k_is)
  (case z_sorted=>k_is)
  (case z_sum=>k_is)
  (case z_tuple=>k_is)
  (case z_zip=>k_is)

