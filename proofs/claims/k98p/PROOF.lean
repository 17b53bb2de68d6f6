import PyProof.Rows.All
import Wide.All
import OpenK.AllK
import Wide.FinOn
import Lean
import PyProof.EqAt
import PyProof.EqKinds
import PyProof.TupleCall
import KE.KRevIter
import KE.KDictOf
import PyProof.AttrMissHeap
import PyProof.StrWalks
import PyProof.StrBlockI
import PyProof.FString5
import PyProof.SetRoads
import PyProof.SetNew
import PyProof.TupleKey
import PyProof.InstEq
import PySem.SetOps
import KE.KTryMore
import PyProof.NsDelKeeps
import KE.KIsAll
import KE.KItemsList
import KE.KSortTup
import KE.KDictSum
import KE.KLam
import KE.KNestM
import KE.KSortTup
import PySem.Challenge.RW_satchelmeet_k98_whole_missed_and_needed
open List renaming length_map → zA,mem_of_getElem? → zB,getElem?_eq_some_iff → zC,length_append → zE,mem_singleton → zF,mem_cons → zH,map_append → zI,mem_append_right → zK,getElem?_eq_getElem → zL,mem_map → zP,size_toArray → zQ,getElem?_map → zS,mem_append → zT,getElem?_append_left → zU,length_cons → zX,getElem?_append_right → zY,length_take → zZ,mem_cons_of_mem → zc,mem_append_left → zd,getElem_mem → zh,nodup_cons → zk,mem_range → zm,take_length → zn,map_cons → zo,append_nil → zq,pairwise_iff_getElem → zw,getElem?_of_mem → zx,map_map → z4,mem_cons_self → z8,length_singleton → yA,getElem?_cons_succ → yC,eraseIdx_of_length_le → yD,length_range → yE,getElem?_cons_zero → yG,length_nil → yI,map_congr_left → yM,pairwise_map → yO,eraseIdx_sublist → yP,mem_filterMap → yV,set_cons_zero → yX,set_cons_succ → yY,pairwise_singleton → ya,length_set → yc,filterMap_cons → yd,map_nil → yf,cons_append → yh,lookup_cons → yi,all_eq_true → yj,mem_flatMap → yk,not_mem_nil → yl,take_succ → yn,pairwise_append → yr,getElem_of_mem → yw,getElem?_range → yx,lookup → xB,find?_cons → xG,range_succ → xH,nil_append → xI,append_assoc → xJ,length_drop → xO,any_cons → xQ
open Nat renaming le_refl → zD,lt_of_lt_of_le → zR,ne_of_lt → zV,zero_le → zb,lt_irrefl → z6,le_trans → yB,not_lt_zero → yJ,ne_of_gt → yQ,succ_mul → yS,lt_succ_iff → yT,lt_succ_of_lt → yZ,le_succ → xC,sub_self → xD,le_of_lt → xL,lt_succ_self → xN,reduceAdd → xR,reduceSub → xT,zero_add → xW,mul_comm → xX
open PySem.W renaming keepIn → zG,nsIn → zJ,mg_of → zM,findIn → zW,mg_none_of → zu,kia_one → yH,emptyDict → yN,instObj → yb,isFn → ye,plainGet → xM,fnOf → xV,mroIn → xZ
open Bool renaming false_ne_true → zO,false_eq_true → za,false_and → yy,and_eq_true → yz,eq_iff_iff → xF,and_false → xK
open PySem.F renaming slot_list_append → ze,type_list_append → zf,plainAttrs_list → zj
open PyProof.Rows renaming boot_isinstance → zg,boot_tuple → yF,boot_list → yK,callWith_type1 → yR,boot_min → yU,boot_max → yo
open Int renaming eq_ofNat_of_zero_le → zl,le_refl → zp,toNat_natCast → zy,emod_lt_of_pos → yW,emod_nonneg → yq,toNat_of_nonneg → yu,zero_add → xP,mul_zero → xY
open PySem renaming mem_of_lookup → yL
open Option renaming map_some → xU
set_option Elab.async false
set_option linter.all false
set_option maxRecDepth 100000
set_option maxHeartbeats 4000000
namespace L2
open PySem PySem.Spec PyProof.Rows
noncomputable abbrev Key:=Sum Int Str
noncomputable def nV:Key->Value->Bool
 | .inl k,v=>Value.isInt k v
 | .inr x,v=>Value.isStrOf x v
noncomputable def Xm (w:World):Key->Int
 | .inl k=>hashInt k
 | .inr x=>hashStr w x
theorem wH:∀ {k:Key}{v:Value},nV k v=true->(∃ i t,k=Sum.inl i/\v=Value.int i t)\/(∃ x t,k=Sum.inr x/\v=Value.str x t)
 | .inl i,v,h=>by
  obtain ⟨t,e⟩:=Value.isInt_shape (k:=i) (v:=v) h;exact .inl ⟨i,t,rfl,e⟩
 | .inr x,v,h=>by
  obtain ⟨t,e⟩:=Value.isStrOf_shape (x:=x) (v:=v) h;exact .inr ⟨x,t,rfl,e⟩
theorem Oe (i:Int)(t:Tok):nV (.inl i) (.int i t)=true:=by simp [nV,Value.isInt]
theorem Od (x:Str)(t:Tok):nV (.inr x) (.str x t)=true:=by simp [nV,Value.isStrOf]
theorem U6 (a b:Int):decide ((Sum.inl a:Key)=Sum.inl b)=(a == b):=by
 by_cases e:a=b
 ·subst e;simp
 ·have h:¬ (Sum.inl a:Key)=Sum.inl b:=λq=>e (Sum.inl.inj q);rw [decide_eq_false h];exact (beq_eq_false_iff_ne.mpr e).symm
theorem U3 (a b:Str):decide ((Sum.inr a:Key)=Sum.inr b)=decide (a=b):=by
 by_cases e:a=b
 ·subst e;simp
 ·have h:¬ (Sum.inr a:Key)=Sum.inr b:=λq=>e (Sum.inr.inj q);rw [decide_eq_false h,decide_eq_false e]
theorem U5 (a:Int)(b:Str):decide ((Sum.inl a:Key)=Sum.inr b)=false:=decide_eq_false (λq=>nomatch q)
theorem U4 (a:Str)(b:Int):decide ((Sum.inr a:Key)=Sum.inl b)=false:=decide_eq_false (λq=>nomatch q)
noncomputable def aQ (prog:Program)(w:World):PySem.KeyKind prog w Key where
 is:=nV
 hash:=Xm w
 inj:=λv a b ha hb=>by
  rcases wH ha with ⟨i,t,rfl,rfl⟩ | ⟨x,t,rfl,rfl⟩
  ·rcases wH hb with ⟨j,u,rfl,e⟩ | ⟨y,u,rfl,e⟩
   ·injection e with e1 _;rw [e1]
   ·exact nomatch e
  ·rcases wH hb with ⟨j,u,rfl,e⟩ | ⟨y,u,rfl,e⟩
   ·exact nomatch e
   ·injection e with e1 _;rw [e1]
 byValue:=λk v h=>by
  rcases wH h with ⟨i,t,rfl,rfl⟩ | ⟨x,t,rfl,rfl⟩ <;> rfl
 pyHash:=λhv h=>by
  rcases wH hv with ⟨i,t,rfl,rfl⟩ | ⟨x,t,rfl,rfl⟩
  ·exact wpAny_pyHash_int h
  ·exact wpAny_pyHash_str h
 eqBool:=λhu hv h=>by
  rcases wH hu with ⟨i,t,rfl,rfl⟩ | ⟨x,t,rfl,rfl⟩
  ·rcases wH hv with ⟨j,u,rfl,rfl⟩ | ⟨y,u,rfl,rfl⟩
   ·rw [U6] at h;exact wpAny_eqBool_int h
   ·rw [U5] at h;exact SeqAt.EqAt.int_str i t y u _ _ _ _ h
  ·rcases wH hv with ⟨j,u,rfl,rfl⟩ | ⟨y,u,rfl,rfl⟩
   ·rw [U4] at h;exact SeqAt.EqAt.str_int x t j u _ _ _ _ h
   ·rw [U3] at h;exact wpAny_eqBool_str h
 «strs»:=λk x t v h=>by
  rcases wH h with ⟨i,u,rfl,e⟩ | ⟨y,u,rfl,e⟩
  ·exact nomatch e
  ·injection e with e1 _
   subst e1;cases v <;> rfl
theorem t9 (prog:Program)(w:World)(i:Int)(t:Tok):(aQ prog w).is (.inl i) (.int i t)=true:=Oe i t
theorem t8 (prog:Program)(w:World)(x:Str)(t:Tok):(aQ prog w).is (.inr x) (.str x t)=true:=Od x t
inductive V where
 | cI | bl (b:Bool) | int (i:Int) | str (x:Str) | OC (b:Array UInt8) | TU (b:UInt64) | ref (a:Addr) | ty (n:String)
 deriving DecidableEq
noncomputable def RelV:V->Value->Prop
 | .cI,u=>u=Value.none
 | .bl b,u=>u=Value.bool b
 | .int i,u=>∃ t,u=Value.int i t
 | .str x,u=>∃ t,u=Value.str x t
 | .OC b,u=>∃ t,u=Value.bytes b t
 | .TU b,u=>∃ t,u=Value.float b t
 | .ref a,u=>u=Value.ref a
 | .ty n,u=>u=Value.type n
noncomputable abbrev Vals:List V->List Value->Prop:=Paired RelV
theorem Vals.length {xs:List V}{us:List Value}(r:Vals xs us):xs.length=us.length:=Paired.length r
theorem Vals.get:∀ {xs:List V}{us:List Value}{i:Nat}{x:V},Vals xs us->xs[i]?=some x->∃ u,us[i]?=some u/\RelV x u
 | _,_,_,_,.nil,e=>by simp at e
 | _,_,0,_,.cons r _,e=>by simp at e;subst e;exact ⟨_,rfl,r⟩
 | _,_,i + 1,x,.cons _ t,e=>by
  obtain ⟨u,h1,h2⟩:=Vals.get (i:=i) (x:=x) t (by simpa using e);exact ⟨u,by simpa using h1,h2⟩
theorem Vals.set {x:V}{u:Value}(r:RelV x u):∀ {xs:List V}{us:List Value} (i:Nat),Vals xs us->Vals (xs.set i x) (us.set i u)
 | _,_,_,.nil=>.nil
 | _,_,0,.cons _ t=>.cons r t
 | _,_,i + 1,.cons q t=>.cons q (Vals.set r i t)
theorem Vals.append:∀ {xs ys:List V}{us ws:List Value},Vals xs us->Vals ys ws->Vals (xs++ys) (us++ws)
 | _,_,_,_,.nil,s=>s
 | _,_,_,_,.cons r t,s=>.cons r (Vals.append t s)
theorem Vals.take:∀ {xs:List V}{us:List Value} (n:Nat),Vals xs us->Vals (xs.take n) (us.take n)
 | _,_,0,_=>.nil
 | _,_,_ + 1,.nil=>.nil
 | _,_,n + 1,.cons r t=>.cons r (Vals.take n t)
theorem Vals.drop:∀ {xs:List V}{us:List Value} (n:Nat),Vals xs us->Vals (xs.drop n) (us.drop n)
 | _,_,0,r=>r
 | _,_,_ + 1,.nil=>.nil
 | _,_,n + 1,.cons _ t=>Vals.drop n t
noncomputable def iT:Option V->Option Value->Prop
 | some v,some u=>RelV v u
 | none,none=>True
 | _,_=>False
noncomputable def KV {κ:Type}:List (κ×V)->List (κ×Value)->Prop:=Paired λ(p:κ×V) (q:κ×Value)=>p.1=q.1/\RelV p.2 q.2
noncomputable def kV:Key->V
 | .inl i=>.int i
 | .inr x=>.str x
inductive HO where
  | lst (xs:List V)
  | tup (xs:List V)
  | dK (aF:List (Key×V)) | dT (aF:List (List Key×V))
  | set (S:Int->Bool) (n:Nat)
  | ins (C dx:Addr) (fs:List (Str×V))
  | own (x:Addr)
  | xd (fs:List (Str×V))
  | met (f x:Addr)
  | WT (lo hi:Int)
  | oW (o:Obj) (u:HO)
  | jv (ps:Array Value)
  | ext (φ:Heap->Prop)
noncomputable abbrev Hp:=Addr->Option HO
noncomputable def upd (H:Hp)(a:Addr)(o:HO):Hp:=λb=>if b=a then some o else H b
theorem xb {H:Hp}{a:Addr}{o:HO}:upd H a o a=some o:=by unfold upd;rw [if_pos rfl]
theorem xj {H:Hp}{a b:Addr}{o:HO}(h:b≠a):upd H a o b=H b:=by unfold upd;rw [if_neg h]
theorem cT {H:Hp}{a b:Addr}{o u:HO}(h:H a=some o)(h':H b=some u)(d:o≠u):a≠b:=by intro e;subst e;rw [h] at h';exact d (Option.some.inj h')
theorem xh {H:Hp}{a b:Addr}{o:HO}(h:H a=some o)(h':H b=none):a≠b:=by intro e;subst e;rw [h] at h';cases h'
theorem tV {h:Heap}{o:Obj}(hf:o.isFreed=false:=by rfl)(hd:o.dict=none:=by rfl):∀ ob,(h.push o).get? h.objs.size=some ob->ob.dict=none:=λob e=>by
 rw [Heap.get?_push_size h hf] at e;cases e;exact hd
section
variable (P:Program) (w:World)
noncomputable def bK (H:Hp)(h:Heap)(a:Addr):HO->Prop
 | .lst xs=>xs.length<=sizeLine/\∃ (aC:List Value) (n:Nat),Vals xs aC/\h.get? a=some { cls:=.type "list", data:=.seq aC.toArray n }
 | .tup xs=>(xs.length<=sizeLine/\∀ ob,h.get? a=some ob->ob.dict=none)/\∃ aC:List Value,Vals xs aC/\IsTup h a aC.toArray
 | .dK aF=>aF.length<=sizeLine/\(a == sysModules)=false/\∃ vs,KV aF vs/\h.DictOf (aQ P w) a vs
 | .dT aF=>aF.length<=sizeLine/\(a == sysModules)=false/\∃ xs:List (List Key×Addr×Value),
   Paired (λ(p:List Key×V) (q:List Key×Addr×Value)=>p.1=q.1/\H q.2.1=some (.tup (p.1.map kV))/\RelV p.2 q.2.2) aF xs /\
   ∃ o es ep,h.get? a=some o/\o.ExactDict/\o.data=.dict es ep/\es.toList=xs.map (entryOfKey (tupleKind (aQ P w)))/\(xs.map (·.1)).Nodup
 | .set S n=>h.SetOf (intKind P w) a S n
 | .ins C dx fs=>H dx=some (.own a)/\fs.length<=1000/\dx≠a/\h.get? a=some (yb C dx) /\
   ∃ mA,h.Ns1 dx mA/\(∀ f,iT (fs.lookup f) (mA f))/\PySem.Within mA (fs.map (·.1))
 | .own _=>∃ o,h.get? a=some o
 | .xd fs=>∃ mA,h.Ns1 a mA/\∀ f,iT (fs.lookup f) (mA f)
 | .WT lo hi=>∃ t u v,h.get? a=some { cls:=.type "range", data:=.fields #[.int lo t,.int hi u,.int 1 v] }
 | .oW o u=>h.get? a=some o/\bK H h a u
 | .jv ps=>h.get? a=some { cls:=.none,data:=.fields ps }
 | .met f x=>h.get? a=some (PySem.W.methodObj (.ref f) (.ref x))
 | .ext φ=>φ h/\(∃ o,h.get? a=some o)/\∀ h1 h2:Heap,φ h1->(∀ o,h1.get? a=some o->h2.get? a=some o)->φ h2
noncomputable def gP (H:Hp)(h:Heap):Prop:=∀ a o,H a=some o->bK P w H h a o
end
section
variable {P:Program}{w:World}{H H':Hp}{h h':Heap}{a:Addr}{o:HO}
theorem bK.lt (x:bK P w H h a o):a < h.objs.size:=by
 cases o with
 | lst xs=>obtain ⟨_,_,_,_,e⟩:=x;exact Heap.lt_size e
 | tup xs=>obtain ⟨_,_,_,p⟩:=x;exact p.lt
 | dK aF=>obtain ⟨_,_,_,_,o,_,_,e,_⟩:=x;exact Heap.lt_size e
 | dT aF=>obtain ⟨_,_,_,_,o,_,_,e,_⟩:=x;exact Heap.lt_size e
 | set S n=>obtain ⟨o,_,_,_,e,_⟩:=x;exact Heap.lt_size e
 | ins C dx fs=>obtain ⟨_,_,_,e,_⟩:=x;exact Heap.lt_size e
 | own y=>obtain ⟨_,e⟩:=x;exact Heap.lt_size e
 | xd fs=>obtain ⟨_,⟨_,_,_,e,_⟩,_⟩:=x;exact Heap.lt_size e
 | WT lo hi=>obtain ⟨_,_,_,e⟩:=x;exact Heap.lt_size e
 | oW ob u=>obtain ⟨e,_⟩:=x;exact Heap.lt_size e
 | jv ps=>exact Heap.lt_size (show h.get? a=some _ from x)
 | met f y=>exact Heap.lt_size (show h.get? a=some _ from x)
 | ext φ=>obtain ⟨_,⟨_,e⟩,_⟩:=x;exact Heap.lt_size e
theorem Paired.UW {α β:Type}{F G:α->β->Prop}:∀ {Xi:List α}{Xh:List β},Paired F Xi Xh->(∀ a b,F a b->G a b)->Paired G Xi Xh
 | _,_,.nil,_=>.nil
 | _,_,.cons r t,f=>.cons (f _ _ r) (Paired.UW t f)
theorem bK.dJ (x:bK P w H h a o)(k:∀ b u,(b=a\/H b=some (.own a))->h.get? b=some u->h'.get? b=some u)
  (ho:∀ b,H b=some (.own a)->H' b=some (.own a)) (ht:∀ b xs,H b=some (.tup xs)->H' b=some (.tup xs)):bK P w H' h' a o:=by
 induction o with
 | lst xs=>obtain ⟨z,aC,n,r,e⟩:=x;exact ⟨z,aC,n,r,k _ _ (.inl rfl) e⟩
 | tup xs=>obtain ⟨z,aC,r,ob,e,c⟩:=x;exact ⟨⟨z.1,λob' e'=>by rw [k _ _ (.inl rfl) e] at e';cases e';exact z.2 _ e⟩,aC,r,ob,k _ _ (.inl rfl) e,c⟩
 | dK aF=>obtain ⟨z,y,vs,r,ob,es,ep,e,c⟩:=x;exact ⟨z,y,vs,r,ob,es,ep,k _ _ (.inl rfl) e,c⟩
 | dT aF=>
  obtain ⟨z,y,xs,r,ob,es,ep,e,c⟩:=x;exact ⟨z,y,xs,Paired.UW r λp q z=>⟨z.1,ht _ _ z.2.1,z.2.2⟩,ob,es,ep,k _ _ (.inl rfl) e,c⟩
 | set S n=>obtain ⟨ob,es,ep,t,e,c⟩:=x;exact ⟨ob,es,ep,t,k _ _ (.inl rfl) e,c⟩
 | ins C dx fs=>
  obtain ⟨d,z,ne,e,mA,⟨od,es,ep,e2,c⟩,r⟩:=x;exact ⟨ho _ d,z,ne,k _ _ (.inl rfl) e,mA,⟨od,es,ep,k _ _ (.inr d) e2,c⟩,r⟩
 | own y=>obtain ⟨ob,e⟩:=x;exact ⟨ob,k _ _ (.inl rfl) e⟩
 | xd fs=>obtain ⟨mA,⟨od,es,ep,e,c⟩,r⟩:=x;exact ⟨mA,⟨od,es,ep,k _ _ (.inl rfl) e,c⟩,r⟩
 | WT lo hi=>obtain ⟨t,u,v,e⟩:=x;exact ⟨t,u,v,k _ _ (.inl rfl) e⟩
 | oW ob u ih=>obtain ⟨e,q⟩:=x;exact ⟨k _ _ (.inl rfl) e,ih q⟩
 | jv ps=>
  have e:h.get? a=some { cls:=.none,data:=.fields ps }:=x;show h'.get? a=some { cls:=.none,data:=.fields ps };exact k a _ (.inl rfl) e
 | met f y=>
  have e:h.get? a=some (PySem.W.methodObj (.ref f) (.ref y)):=x;show h'.get? a=some (PySem.W.methodObj (.ref f) (.ref y));exact k a _ (.inl rfl) e
 | ext φ=>obtain ⟨p,⟨o,e⟩,st⟩:=x;exact ⟨st _ _ p λo q=>k _ _ (.inl rfl) q,⟨o,k _ _ (.inl rfl) e⟩,st⟩
theorem gP.lt (x:gP P w H h)(e:H a=some o):a < h.objs.size:=(x a o e).lt
theorem gP.fresh (x:gP P w H h)(e:h.objs.size<=a):H a=none:=by
 cases q:H a with
 | none=>rfl
 | some u=>exact absurd (zR (x.lt q) e) (z6 _)
theorem gP.kept (x:gP P w H h)(k:∀ b u,h.get? b=some u->h'.get? b=some u):gP P w H h':=λa o e=>
 (x a o e).dJ (λb u _ q=>k b u q) (λ_ q=>q) λ_ _ q=>q
theorem gP.laid (x:gP P w H h)(k:∀ b u,h.get? b=some u->h'.get? b=some u)(hp:h.objs.size<=a)(new:bK P w (upd H a o) h' a o):gP P w (upd H a o) h':=λb u e=>by
 have hn:=x.fresh hp;by_cases hb:b=a
 ·subst hb;rw [xb] at e;cases e;exact new
 ·rw [xj hb] at e;exact (x b u e).dJ (λc v _ q=>k c v q) (λc q=>by rw [xj (xh q hn)];exact q) λc xs q=>by rw [xj (xh q hn)];exact q
end
noncomputable def Rd (H:Hp)(a:Addr)(u:HO):Prop:=H a=some u\/∃ o,H a=some (.oW o u)
theorem Rd.ok {P:Program}{w:World}{H:Hp}{h:Heap}{a:Addr}{u:HO}(r:Rd H a u)(x:gP P w H h):bK P w H h a u:=by
 rcases r with r | ⟨o,r⟩
 ·exact x a u r
 ·obtain ⟨_,q⟩:=x a _ r;exact q
noncomputable def Yq:Option HO->Prop
 | some (.lst _)=>True
 | some (.dK _)=>True
 | some (.dT _)=>True
 | some (.set _ _)=>True
 | some (.ins _ _ _)=>True
 | some (.ext _)=>True
 | _=>False
section
variable {P:Program}{w:World}{H:Hp}{h h':Heap}{x e:Addr}{o':HO}
theorem gP.write (ok:gP P w H h)(mu:Yq (H x))(he:e=x\/H e=some (.own x))(k:∀ b u,b≠e->h.get? b=some u->h'.get? b=some u)(Wd:∃ u,h'.get? e=some u)
  (new:bK P w (upd H x o') h' x o'):gP P w (upd H x o') h':=λb u q=>by
 have Xa:∀ c y,H c=some (.own y)->c≠x:=λc y r z=>by subst z;rw [r] at mu;exact mu
 have ZK:∀ c xs,H c=some (.tup xs)->c≠x:=λc xs r z=>by subst z;rw [r] at mu;exact mu
 by_cases hb:b=x
 ·subst hb;rw [xb] at q;cases q;exact new
 ·rw [xj hb] at q;by_cases Vt:b=e
  ·have q':H b=some (.own x):=by
    rcases he with z | z
    ·exact absurd (Vt.trans z) hb
    ·rw [Vt];exact z
   rw [q] at q';cases q';obtain ⟨v,hv⟩:=Wd;exact ⟨v,by rw [Vt];exact hv⟩
  ·refine (ok b u q).dJ (λc v hc r=>k c v ?_ r) (λc r=>by rw [xj (Xa c b r)];exact r) λc xs r=>by rw [xj (ZK c xs r)];exact r
   rcases hc with rfl | hc
   ·exact Vt
   ·rintro rfl;rcases he with z | z
    ·exact Xa c b hc z
    ·rw [hc] at z;cases z;exact hb rfl
end
structure Un (fs ex:List Addr) (H H':Hp) (h h':Heap):Prop where
 keep:∀ b o,h.get? b=some o->H b=none->b ∉ fs->b ∉ ex->h'.get? b=some o
 slot:∀ b o,h.get? b=some o->H b=none->b∈fs->b ∉ ex->∃ sl,h'.get? b=some { o with slots:=sl }
 free:∀ b o,h.get? b=some o->H b=none->b ∉ ex->H' b=none
 there:∀ b o,h.get? b=some o->b ∉ ex->∃ o',h'.get? b=some o'
 aS:∀ b xs,H b=some (.tup xs)->H' b=some (.tup xs)
 fc:∀ b o u,H b=some (.oW o u)->H' b=some (.oW o u)
 eY:∀ b ps,H b=some (.jv ps)->∃ more,H' b=some (.jv (ps++more))
section
variable {fs Wk ex ex':List Addr} {H H1 H2:Hp} {h h1 h2 h':Heap}{a x e:Addr}{o:HO}
theorem Un.any (u:Un fs ex H H1 h h1){b:Addr}{ob:Obj}(q:h.get? b=some ob)(n:H b=none)(hx:b ∉ ex):∃ sl,h1.get? b=some { ob with slots:=sl }:=by
 by_cases hb:b∈fs
 ·exact u.slot b ob q n hb hx
 ·exact ⟨ob.slots,u.keep b ob q n hb hx⟩
theorem Un.kept (k:∀ b u,h.get? b=some u->h'.get? b=some u):Un fs ex H H h h':=
 ⟨λb ob q _ _ _=>k b ob q,λb ob q _ _ _=>⟨ob.slots,k b ob q⟩,λ_ _ _ n _=>n,λb ob q _=>⟨ob,k b ob q⟩,λ_ _ q=>q,λ_ _ _ q=>q,λ_ ps q=>⟨#[],by rw [q];simp⟩⟩
theorem Un.refl:Un fs ex H H h h:=Un.kept λ_ _ q=>q
theorem Un.laid (k:∀ b u,h.get? b=some u->h'.get? b=some u)(hp:h.objs.size<=a)(hn:H a=none):Un fs ex H (upd H a o) h h' where
 keep:=λb u q _ _ _=>k b u q
 slot:=λb u q _ _ _=>⟨u.slots,k b u q⟩
 free:=λb u q n _=>by rw [xj (zV (zR (Heap.lt_size q) hp))];exact n
 there:=λb u q _=>⟨u,k b u q⟩
 aS:=λb xs q=>by rw [xj (xh q hn)];exact q
 fc:=λb u xs q=>by rw [xj (xh q hn)];exact q
 eY:=λb ps q=>⟨#[],by rw [xj (xh q hn),q];simp⟩
theorem Un.write (mu:Yq (H x))(he:e=x\/H e=some (.own x))(k:∀ b u,b≠e->h.get? b=some u->h'.get? b=some u)(Wd:∃ u,h'.get? e=some u):Un fs ex H (upd H x o) h h':=by
 have hx:∀ b,H b=none->b≠x:=λb n z=>by subst z;rw [n] at mu;exact mu
 have hb:∀ b,H b=none->b≠e:=λb n z=>by
  subst z;rcases he with r | r
  ·exact hx b n r
  ·rw [n] at r;cases r
 have hm:∀ b u,H b=some u->¬ Yq (some u)->b≠x:=λb u q nm z=>by subst z;rw [q] at mu;exact nm mu
 refine ⟨λb u q n _ _=>k b u (hb b n) q,λb u q n _ _=>⟨u.slots,k b u (hb b n) q⟩,λb u q n _=>by rw [xj (hx b n)];exact n,λb u q _=>?_,
  λb xs q=>by rw [xj (hm b _ q λz=>z)];exact q,λb u xs q=>by rw [xj (hm b _ q λz=>z)];exact q,λb ps q=>⟨#[],by rw [xj (hm b _ q λz=>z),q];simp⟩⟩
 by_cases Vt:b=e
 ·subst Vt;exact Wd
 ·exact ⟨u,k b u Vt q⟩
end
noncomputable def Yv (h:Heap)(H:Hp):List Addr:=(List.range h.objs.size).filter λa=>(H a).isSome
noncomputable def pF (h:Heap)(H:Hp):Heap:=PySem.W.hideAll h (Yv h H)
theorem Oh (h:Heap)(H:Hp):(pF h H).objs.size=h.objs.size:=PySem.W.hideAll_size _ _
theorem Qx {h:Heap}{H:Hp}{b:Addr}{o:Obj}(e:h.get? b=some o)(n:H b=none):(pF h H).get? b=some o:=
 PySem.W.hideAll_get _ e λhm=>by
  have q:(H b).isSome=true:=(List.mem_filter.mp hm).2;rw [n] at q;simp at q
theorem Si {h:Heap}{H:Hp}{b:Addr}{o:Obj}(e:(pF h H).get? b=some o):h.get? b=some o/\H b=none:=by
 have e':h.get? b=some o:=PySem.W.of_hideAll (Yv h H) e;refine ⟨e',?_⟩;cases q:H b with
 | none=>rfl
 | some x=>
  have hm:b∈Yv h H:=List.mem_filter.mpr ⟨zm.mpr (Heap.lt_size e'),by simp [q]⟩;have z:(pF h H).get? b=none:=PySem.W.hideAll_none (Yv h H) hm;rw [z] at e;cases e
noncomputable def gu (g h:Heap)(L:Addr):List (Addr×Obj):=(List.range h.objs.size).filterMap λa=>if a=L\/(g.get? a).isSome=true then none else (h.get? a).map λo=>(a,o)
theorem eS {g h:Heap}{L a:Addr}{o:Obj}(h1:a≠L)(h2:g.get? a=none)(h3:h.get? a=some o):(a,o)∈gu g h L:=
 yV.mpr ⟨a,zm.mpr (Heap.lt_size h3),by simp [h1,h2,h3]⟩
theorem nK {g h:Heap}{L:Addr}{p:Addr×Obj}(hp:p∈gu g h L):p.1≠L/\g.get? p.1=none/\h.get? p.1=some p.2:=by
 obtain ⟨b,_,e⟩:=yV.mp hp;split at e
 ·cases e
 ·rename_i hn;cases q:h.get? b with
  | none=>rw [q] at e;simp at e
  | some u=>
   rw [q] at e;simp only [xU,Option.some.injEq] at e;subst e;refine ⟨λz=>hn (.inl z),?_,q⟩;show g.get? b=none;cases r:g.get? b with
   | none=>rfl
   | some v=>exact (hn (.inr (by simp [r]))).elim
noncomputable def rest (g h:Heap)(L d:Addr):List (Addr×Obj):=(gu g h L).filter λp=>decide (p.1≠d)
theorem tU {g h:Heap}{L:Addr}:News g L h (gu g h L):=λp hp=>let ⟨a,b,c⟩:=nK hp;⟨c,a,b⟩
structure Mod (K:PySem.W.Frag) (mg:Str->Option Value) (base:Heap):Prop where
 V9:K.In base
 glob:base.Ns mainGlobals mg
 blt:∃ mb,base.Ns builtinsNs mb/\∀ x:Str,x ≠ "__name__" -> mb x=bootBuiltins x
 nolimit:base.NoLimit
structure Cx where
 prog:Program
 w:World
 K:PySem.W.Frag
 mg:Str->Option Value
 base:Heap
 A:Around
 N:List Str
 cP:Shared
 OJ:Hp
 env:Env
 outer:List Env
 stack:List Env
 ex:List Addr
 fn:Str->Bool
 calm:Bool
 pn:List (Addr×Obj)
 xe:Value->Shared->Prop
noncomputable def mq (l:List Env):List Addr:=l.filterMap (·.frame)
noncomputable abbrev Cx.fs (X:Cx):List Addr:=mq X.outer
noncomputable def Zg (sc:Scope)(x:Str):Prop:=sc.names.lookup x=some .local\/sc.names.lookup x=some .cell\/sc.names.lookup x=some .free
noncomputable def Loc (sc:Scope)(x:Str):Prop:=sc.names.lookup x=some .local\/sc.names.lookup x=some .cell
noncomputable def Look (env:Env)(h:Heap)(m:Str->Option Value)(x:Str)(u:Value):Prop:=
 (env.kindOf x=some .local/\m x=some u)\/((env.kindOf x=some .cell\/env.kindOf x=some .free)/\∃ c,env.cells.lookup x=some c/\h.IsCell c (some u))
structure Cx.Ok (X:Cx):Prop where
 mod:Mod X.K X.mg X.base
 kind:X.env.scope.kind=.function
 glob:X.env.globals=mainGlobals
 blt:X.env.builtins=builtinsNs
 above:X.cP.heap.objs.size<=X.env.locals
 inj:∀ x y c,X.env.cells.lookup x=some c->X.env.cells.lookup y=some c->x=y
 has:∀ x,(X.env.kindOf x=some .cell\/X.env.kindOf x=some .free)->∃ c,X.env.cells.lookup x=some c
 Wo:∀ x c,X.fn x=true->X.env.cells.lookup x=some c->X.cP.heap.objs.size<=c
 hd:X.calm=true->X.A.handled=none
 frames:X.A.frames=some X.stack
 WJ:X.stack=X.outer\/(X.stack=X.env::X.outer/\X.env.frame=some X.env.locals)
 exf:∀ b∈X.ex,b≠X.env.locals/\∀ x c,X.env.cells.lookup x=some c->c≠b
 bs:∀ b o,X.base.get? b=some o->X.cP.heap.get? b=some o/\X.OJ b=none
 OP:X.base.objs.size<=X.cP.heap.objs.size
 N4:∀ b o,X.base.get? b=some o->b ∉ X.ex
 QH:∀ b∈X.ex,b ∉ X.fs
 gc:X.cP.heap.FunFrames X.base X.outer
 QF:∀ b∈X.fs,X.OJ b=none
structure Inv (X:Cx) (aa:List (Addr×Obj)) (σ:List (Option V)) (H:Hp) (s:Shared):Prop where
 ok:X.Ok
 os:s.os=X.cP.os
 bare:AllBare s.gens
 base:Un X.fs X.ex X.OJ H X.cP.heap s.heap
 loc:∃ m,s.heap.Ns X.env.locals m/\∀ (i:Nat) (x:Str) (v:V),X.N[i]?=some x->σ[i]?=some (some v)->Zg X.env.scope x->∃ u,RelV v u/\Look X.env s.heap m x u
 cell:∀ x c,X.env.cells.lookup x=some c->∃ v,s.heap.IsCell c v
 free:H X.env.locals=none
 gF:∀ x c,X.env.cells.lookup x=some c->H c=none
 pin:∀ p∈X.pn++aa,s.heap.get? p.1=some p.2/\H p.1=none/\p.1≠X.env.locals/\p.1 ∉ X.fs/\∀ v,p.2.data≠.cell v
 aY:gP X.prog X.w H s.heap
 len:σ.length=X.N.length
section
variable {X:Cx}{aa:List (Addr×Obj)}{σ:List (Option V)}{H H':Hp}{s:Shared}{h':Heap}
theorem Cx.Ok.ZL (ok:X.Ok){b:Addr}{o:Obj}(e:X.base.get? b=some o):b ∉ X.fs:=λhb=>by
 have:=(ok.gc.mem hb).1;rw [e] at this;cases this
theorem Inv.bs (I:Inv X aa σ H s):∀ b o,X.base.get? b=some o->s.heap.get? b=some o/\H b=none:=λb o e=>
 ⟨I.base.keep b o (I.ok.bs b o e).1 (I.ok.bs b o e).2 (I.ok.ZL e) (I.ok.N4 b o e),I.base.free b o (I.ok.bs b o e).1 (I.ok.bs b o e).2 (I.ok.N4 b o e)⟩
theorem Inv.bk (I:Inv X aa σ H s):∀ b o,X.base.get? b=some o->s.heap.get? b=some o:=λb o e=>(I.bs b o e).1
theorem Inv.mod (I:Inv X aa σ H s):Mod X.K X.mg X.base:=I.ok.mod
theorem Inv.jM (I:Inv X aa σ H s):X.K.In s.heap:=I.ok.mod.V9.keeps I.bk
theorem Inv.fr (I:Inv X aa σ H s):∃ m,Fr X.base X.env.locals s.heap m:=
 let ⟨m,hn,_⟩:=I.loc
 ⟨m,hn,I.bk,yB I.ok.OP I.ok.above⟩
theorem Inv.lt (I:Inv X aa σ H s):X.env.locals < s.heap.objs.size:=let ⟨_,hn,_⟩:=I.loc;hn.lt
theorem Inv.sz (I:Inv X aa σ H s):X.cP.heap.objs.size<=s.heap.objs.size:=yB I.ok.above (xL I.lt)
theorem Inv.Xb (I:Inv X aa σ H s){a:Addr}(h:s.heap.objs.size<=a):a ∉ X.fs:=λhb=>by
 obtain ⟨_,o,ho,_⟩:=I.ok.gc.mem hb;exact absurd (zR (Heap.lt_size ho) (yB I.sz h)) (z6 _)
theorem Inv.VO (I:Inv X aa σ H s):∀ x c,X.env.cells.lookup x=some c->c≠X.env.locals:=λx c e z=>by
 obtain ⟨v,o,ho,hd⟩:=I.cell x c e;obtain ⟨m,⟨o',es,ep,pD,Oi,_⟩,_⟩:=I.loc;rw [z,pD] at ho;cases ho;rw [Oi] at hd;cases hd
theorem Inv.gc (I:Inv X aa σ H s):s.heap.FunFrames X.base X.outer:=by
 have all:∀ (l:List Env),(∀ b∈mq l,b∈X.fs)->X.cP.heap.FunFrames X.base l->s.heap.FunFrames X.base l:=by
  intro l;induction l with
  | nil=>intro _ _;trivial
  | cons env r ih=>
   intro hs hl;obtain ⟨hk,⟨L,o,hf,hn,ho,hd⟩,hr⟩:=hl;have hL:L∈X.fs:=hs L (by unfold mq;rw [yd,hf];exact z8);obtain ⟨sl,e⟩:=I.base.slot L o ho (I.ok.QF L hL) hL λz=>I.ok.QH L z hL;exact ⟨hk,⟨L,_,hf,hn,e,hd⟩,ih (λb hb=>hs b (by unfold mq;rw [yd,hf];exact zc _ hb)) hr⟩
 exact all X.outer (λ_ hb=>hb) I.ok.gc
theorem Inv.stack (I:Inv X aa σ H s):s.heap.FunFrames X.base X.stack:=by
 rcases I.ok.WJ with e | ⟨e,hf⟩
 ·rw [e];exact I.gc
 ·rw [e];obtain ⟨m,hn,_⟩:=I.loc;refine .cons (by rw [I.ok.kind];decide) hf hn ?_ I.gc;exact Heap.get?_none_of_le (yB I.ok.OP I.ok.above)
theorem Inv.gT (I:Inv X aa σ H s):∀ b∈mq X.stack,b∈X.env.locals::X.fs:=λb hb=>by
 rcases I.ok.WJ with e | ⟨e,hf⟩
 ·rw [e] at hb;exact zc _ hb
 ·rw [e] at hb;unfold mq at hb;rw [yd,hf] at hb;exact hb
theorem Inv.qS (I:Inv X aa σ H s):∀ b∈mq X.stack,H b=none:=λb hb=>by
 rcases zH.mp (I.gT b hb) with e | hb
 ·rw [e];exact I.free
 ·obtain ⟨_,o,ho,_⟩:=I.ok.gc.mem hb;exact I.base.free b o ho (I.ok.QF b hb) λz=>I.ok.QH b z hb
theorem Inv.step {g':Array GenState}{t':Nat}{d':Drawn}{ch:List Addr}(I:Inv X aa σ H s)
  (Rl:∀ b∈ch,(b∈X.ex\/X.cP.heap.objs.size<=b)/\b≠X.env.locals/\(∀ x c,X.env.cells.lookup x=some c->c≠b)/\∀ p∈X.pn++aa,p.1≠b)
  (keep:∀ b o,b≠X.env.locals->b ∉ X.fs->b ∉ ch->s.heap.get? b=some o->H b=none->h'.get? b=some o)
  (slot:∀ b o,b≠X.env.locals->b∈X.fs->b ∉ ch->s.heap.get? b=some o->H b=none->∃ sl,h'.get? b=some { o with slots:=sl }) (free:∀ b o,b ∉ ch->s.heap.get? b=some o->H b=none->H' b=none)
  (there:∀ b o,b ∉ ch->s.heap.get? b=some o->∃ o',h'.get? b=some o')
  (aS:∀ b xs,H b=some (.tup xs)->H' b=some (.tup xs)) (fc:∀ b o u,H b=some (.oW o u)->H' b=some (.oW o u)) (eY:∀ b ps,H b=some (.jv ps)->∃ more,H' b=some (.jv (ps++more)))
  (ns:∀ m,s.heap.Ns X.env.locals m->h'.Ns X.env.locals m) (aY:gP X.prog X.w H' h') (hg:AllBare g') :
  Inv X aa σ H' { s with heap:=h',gens:=g',drawn:=d',toks:=t' }:=by
 have neL:∀ b o,X.cP.heap.get? b=some o->b≠X.env.locals:=λb o e=>zV (zR (Heap.lt_size e) I.ok.above);have Qa:∀ b o,X.cP.heap.get? b=some o->b ∉ X.ex->b ∉ ch:=λb o e hx hb=>by
  rcases (Rl b hb).1 with z | z
  ·exact hx z
  ·exact absurd (zR (Heap.lt_size e) z) (z6 _)
 have cellK:∀ x c,X.env.cells.lookup x=some c->∀ v,s.heap.IsCell c v->h'.IsCell c v:=λx c e v ⟨o,ho,hd⟩=>by
  have rG:c ∉ ch:=λz=>(Rl c z).2.2.1 x c e rfl;by_cases hc:c∈X.fs
  ·obtain ⟨sl,q⟩:=slot c o (I.VO x c e) hc rG ho (I.gF x c e);exact ⟨_,q,hd⟩
  ·exact ⟨o,keep c o (I.VO x c e) hc rG ho (I.gF x c e),hd⟩
 refine ⟨I.ok,I.os,hg,⟨λb o e n hb hx=>?_,λb o e n hb hx=>?_,λb o e n hx=>?_,λb o e hx=>?_,λb xs e=>aS b xs (I.base.aS b xs e),λb o xs e=>fc b o xs (I.base.fc b o xs e),λb ps e=>?_⟩,?_,λx c e=>?_,?_,λx c e=>?_,λp hp=>?_,aY,I.len⟩
 ·exact keep b o (neL b o e) hb (Qa b o e hx) (I.base.keep b o e n hb hx) (I.base.free b o e n hx)
 ·obtain ⟨sl,e1⟩:=I.base.slot b o e n hb hx;obtain ⟨sl',e2⟩:=slot b _ (neL b o e) hb (Qa b o e hx) e1 (I.base.free b o e n hx);exact ⟨sl',e2⟩
 ·obtain ⟨o',e1⟩:=I.base.there b o e hx;exact free b o' (Qa b o e hx) e1 (I.base.free b o e n hx)
 ·obtain ⟨o',e1⟩:=I.base.there b o e hx;exact there b o' (Qa b o e hx) e1
 ·obtain ⟨m1,e1⟩:=I.base.eY b ps e;obtain ⟨m2,e2⟩:=eY b _ e1;exact ⟨m1++m2,by rw [e2,Array.append_assoc]⟩
 ·obtain ⟨m,hn,hl⟩:=I.loc;refine ⟨m,ns m hn,λi x v e1 e2 e3=>?_⟩;obtain ⟨u,r,l⟩:=hl i x v e1 e2 e3;refine ⟨u,r,?_⟩;rcases l with l | ⟨k,c,e,z⟩
  ·exact .inl l
  ·exact .inr ⟨k,c,e,cellK x c e _ z⟩
 ·obtain ⟨v,z⟩:=I.cell x c e;exact ⟨v,cellK x c e v z⟩
 ·obtain ⟨m,⟨o,_,_,ho,_⟩,_⟩:=I.loc;exact free _ o (λz=>(Rl _ z).2.1 rfl) ho I.free
 ·obtain ⟨v,o,ho,hd⟩:=I.cell x c e;exact free c o (λz=>(Rl c z).2.2.1 x c e rfl) ho (I.gF x c e)
 ·obtain ⟨e,n,ne,nf,d⟩:=I.pin p hp;have rG:p.1 ∉ ch:=λz=>(Rl p.1 z).2.2.2 p hp rfl;exact ⟨keep p.1 p.2 ne nf rG e n,free p.1 p.2 rG e n,ne,nf,d⟩
theorem Inv.un {t':Nat}(I:Inv X aa σ H s)(u:Un X.fs [] H H' s.heap h')(aY:gP X.prog X.w H' h'):Inv X aa σ H' { s with heap:=h',toks:=t' }:=by
 obtain ⟨m,⟨o,es,ep,ho,r⟩,_⟩:=id I.loc;obtain ⟨sl,hL⟩:=u.any ho I.free (by simp);exact I.step (g':=s.gens) (d':=s.drawn) (ch:=[]) (λ_ z=>nomatch z) (λb o _ hb _ e n=>u.keep b o e n hb (by simp)) (λb o _ hb _ e n=>u.slot b o e n hb (by simp)) (λb o _ e n=>u.free b o e n (by simp)) (λb o _ e=>u.there b o e (by simp)) u.aS u.fc u.eY (λm' hm=>by
  obtain ⟨o',es',Rn,pD,r'⟩:=hm;rw [ho] at pD;cases pD;exact ⟨_,es',Rn,hL,r'⟩) aY I.bare
theorem Inv.call {g':Array GenState}{t':Nat}{d':Drawn}{ch:List Addr}(I:Inv X aa σ H s)(u:Un (mq X.stack) ch H H' s.heap h')(aY:gP X.prog X.w H' h')(hg:AllBare g')
  (Rl:∀ b∈ch,(b∈X.ex\/X.cP.heap.objs.size<=b)/\b≠X.env.locals/\(∀ x c,X.env.cells.lookup x=some c->c≠b)/\∀ p∈X.pn++aa,p.1≠b) :
  Inv X aa σ H' { s with heap:=h',gens:=g',drawn:=d',toks:=t' }:=by
 obtain ⟨m,⟨o,es,ep,ho,r⟩,_⟩:=id I.loc;obtain ⟨sl,hL⟩:=u.any ho I.free λz=>(Rl _ z).2.1 rfl;exact I.step (ch:=ch) Rl (λb o hL hb hc e n=>u.keep b o e n (λz=>(zH.mp (I.gT b z)).elim hL hb) hc) (λb o _ _ hc e n=>u.any e n hc) (λb o hc e n=>u.free b o e n hc) (λb o hc e=>u.there b o e hc) u.aS u.fc u.eY (λm' hm=>by
  obtain ⟨o',es',Rn,pD,r'⟩:=hm;rw [ho] at pD;cases pD;exact ⟨_,es',Rn,hL,r'⟩) aY hg
theorem Inv.turned {t':Nat}{it:Addr}(I:Inv X aa σ H s)(k:∀ b o,b≠it->s.heap.get? b=some o->h'.get? b=some o)(hn:H it=none)(hL:it≠X.env.locals)
  (h1:it∈X.ex\/X.cP.heap.objs.size<=it) (h2:∀ x c,X.env.cells.lookup x=some c->c≠it) (h3:∀ p∈X.pn++aa,p.1≠it):Inv X aa σ H { s with heap:=h',toks:=t' }:=by
 have nit:∀ b u,H b=some u->b≠it:=λb u e z=>by rw [z,hn] at e;cases e
 refine I.step (g':=s.gens) (d':=s.drawn) (ch:=[it]) (λb hb=>?_) (λb o _ _ hc e _=>k b o (λz=>hc (by simp [z])) e) (λb o _ _ hc e _=>⟨o.slots,k b o (λz=>hc (by simp [z])) e⟩) (λ_ _ _ _ n=>n)
  (λb o hc e=>⟨o,k b o (λz=>hc (by simp [z])) e⟩) (λ_ _ e=>e) (λ_ _ _ e=>e) (λb ps e=>⟨#[],by rw [e];simp⟩) (λm hm=>?_) (λb u e=>?_) I.bare
 ·have e:b=it:=by simpa using hb
  subst e;exact ⟨h1,hL,h2,h3⟩
 ·obtain ⟨o,es,ep,ho,r⟩:=hm;exact ⟨o,es,ep,k _ o (Ne.symm hL) ho,r⟩
 ·refine (I.aY b u e).dJ (λc v hc q=>k c v ?_ q) (λ_ q=>q) λ_ _ q=>q;rcases hc with z | z
  ·rw [z];exact nit b u e
  ·exact nit c _ z
theorem Inv.tok (I:Inv X aa σ H s)(t:Nat):Inv X aa σ H { s with toks:=t }:=I.un (h':=s.heap) (t':=t) Un.refl I.aY
theorem Inv.kept {t':Nat}(I:Inv X aa σ H s)(k:∀ b u,s.heap.get? b=some u->h'.get? b=some u):Inv X aa σ H { s with heap:=h',toks:=t' }:=I.un (Un.kept k) (I.aY.kept k)
theorem Inv.laid {a:Addr}{o:HO}{t':Nat}(I:Inv X aa σ H s)(k:∀ b u,s.heap.get? b=some u->h'.get? b=some u)(hp:s.heap.objs.size<=a)(new:bK X.prog X.w (upd H a o) h' a o) :
  Inv X aa σ (upd H a o) { s with heap:=h',toks:=t' }:=I.un (Un.laid k hp (I.aY.fresh hp)) (I.aY.laid k hp new)
theorem Inv.write {x e:Addr}{o:HO}{t':Nat}(I:Inv X aa σ H s)(mu:Yq (H x))(he:e=x\/H e=some (.own x))(k:∀ b u,b≠e->s.heap.get? b=some u->h'.get? b=some u)(Wd:∃ u,h'.get? e=some u)
  (new:bK X.prog X.w (upd H x o) h' x o):Inv X aa σ (upd H x o) { s with heap:=h',toks:=t' }:=I.un (Un.write mu he k Wd) (I.aY.write mu he k Wd new)
theorem Inv.cY {iW:List (Addr×Obj)}(I:Inv X aa σ H s)(h:∀ p∈iW,s.heap.get? p.1=some p.2/\H p.1=none/\p.1≠X.env.locals/\p.1 ∉ X.fs/\∀ v,p.2.data≠.cell v):Inv X iW σ H s:=
 ⟨I.ok,I.os,I.bare,I.base,I.loc,I.cell,I.free,I.gF,λp hp=>(zT.mp hp).elim (λz=>I.pin p (zd _ z)) (h p),I.aY,I.len⟩
theorem tR {N:List Str}(hN:N.Nodup){i j:Nat}{x:Str}(a:N[i]?=some x)(b:N[j]?=some x):i=j:=by obtain ⟨h1,e1⟩:=zC.mp a;obtain ⟨h2,e2⟩:=zC.mp b;exact (List.getElem_inj hN).mp (e1.trans e2.symm)
theorem NG {M:Model}{A:Around}{E:Value->Shared->Prop}{i:Nat}{x:Str}{v:V}{u:Value}{Q:Unit->Shared->Prop}(I:Inv X aa σ H s)(hN:X.N.Nodup)(hi:X.N[i]?=some x)(hx:Loc X.env.scope x)(r:RelV v u)
  (h:∀ s',Inv X aa (σ.set i (some v)) H s'->(∃ a,Heap.SameBut a s.heap s'.heap/\(a=X.env.locals\/X.env.cells.lookup x=some a))->Q () s') (hf:X.fn x=true\/X.env.scope.names.lookup x=some .local:=by first | exact .inl rfl | exact .inr rfl | assumption):wpAny M A (storeName X.env x u) Q E s:=by
 obtain ⟨m,hn,hl⟩:=id I.loc;have aav:(X.env.scope.kind == .class || (X.env.scope.kind == .module && X.env.locals != X.env.globals))=false:=by rw [I.ok.kind];rfl
 have XO:i < σ.length:=by rw [I.len];exact (zC.mp hi).1
 have VO:=I.VO;have tracked:∀ {a:Addr}{h':Heap},(∃ o,s.heap.get? a=some o/\H a=none)->Heap.SameBut a s.heap h'->gP X.prog X.w H h':=λ{a h'} ha hs b ob e=>by
  obtain ⟨_,_,TJ⟩:=ha;refine (I.aY b ob e).dJ (λc w' hc q=>(hs.2 c ?_).trans q) (λ_ q=>q) λ_ _ q=>q;rintro rfl;rcases hc with rfl | hc
  ·rw [TJ] at e;cases e
  ·rw [TJ] at hc;cases hc
 rcases hx with hk | hk
 ·refine wpAny_storeName_local hk hn (λh' Rj hs=>?_) aav;obtain ⟨oL,_,_,YQ,_⟩:=id hn;refine h _ ⟨I.ok,I.os,I.bare,⟨λb o e n hb hx=>?_,λb o e n hb hx=>?_,I.base.free,λb o e hx=>?_,I.base.aS,I.base.fc,I.base.eY⟩,⟨_,Rj,λj y v' e1 e2 e3=>?_⟩,λy c e=>?_,I.free,I.gF,λp hp=>?_,tracked ⟨oL,YQ,I.free⟩ hs,by simpa using I.len⟩ ⟨_,hs,.inl rfl⟩
  ·exact (hs.2 b (zV (zR (Heap.lt_size e) I.ok.above))).trans (I.base.keep b o e n hb hx)
  ·obtain ⟨sl,e1⟩:=I.base.slot b o e n hb hx;exact ⟨sl,(hs.2 b (zV (zR (Heap.lt_size e) I.ok.above))).trans e1⟩
  ·obtain ⟨o',e1⟩:=I.base.there b o e hx;exact ⟨o',(hs.2 b (zV (zR (Heap.lt_size e) I.ok.above))).trans e1⟩
  ·by_cases hj:j=i
   ·subst hj;rw [hi] at e1;cases e1;rw [List.getElem?_set_self XO] at e2;cases e2;exact ⟨u,r,.inl ⟨hk,by simp⟩⟩
   ·rw [List.getElem?_set_ne (Ne.symm hj)] at e2;obtain ⟨u',r',q⟩:=hl j y v' e1 e2 e3;refine ⟨u',r',?_⟩;rcases q with ⟨k,e⟩ | ⟨k,c,e,z⟩
    ·refine .inl ⟨k,?_⟩;have:y≠x:=λe=>hj (tR hN e1 (e ▸ hi));simp [this,e]
    ·exact .inr ⟨k,c,e,z.sameBut hs (VO y c e)⟩
  ·obtain ⟨w',z⟩:=I.cell y c e;exact ⟨w',z.sameBut hs (VO y c e)⟩
  ·obtain ⟨e,n,ne,nf,d⟩:=I.pin p hp;exact ⟨(hs.2 p.1 ne).trans e,n,ne,nf,d⟩
 ·have hfn:X.fn x=true:=by
   rcases hf with z | z
   ·exact z
   ·rw [z] at hk;cases hk
  obtain ⟨c,hc⟩:=I.ok.has x (.inl hk);obtain ⟨w',z⟩:=I.cell x c hc;refine wpAny_storeName_cell I.ok.kind hk hc z (λh' TL hs=>?_);obtain ⟨oc,hoc,aaf⟩:=id z;refine h { s with heap:=h' } ⟨I.ok,I.os,I.bare,⟨λb o e n hb hx=>?_,λb o e n hb hx=>?_,I.base.free,λb o e hx=>?_,I.base.aS,I.base.fc,I.base.eY⟩,⟨m,hn.sameBut hs (Ne.symm (VO x c hc)),λj y v' e1 e2 e3=>?_⟩,λy c' e=>?_,I.free,I.gF,λp hp=>?_,tracked ⟨oc,hoc,I.gF x c hc⟩ hs,by simpa using I.len⟩ ⟨c,hs,.inr hc⟩
  ·exact (hs.2 b (zV (zR (Heap.lt_size e) (I.ok.Wo x c hfn hc)))).trans (I.base.keep b o e n hb hx)
  ·obtain ⟨sl,e1⟩:=I.base.slot b o e n hb hx;exact ⟨sl,(hs.2 b (zV (zR (Heap.lt_size e) (I.ok.Wo x c hfn hc)))).trans e1⟩
  ·obtain ⟨o',e1⟩:=I.base.there b o e hx;exact ⟨o',(hs.2 b (zV (zR (Heap.lt_size e) (I.ok.Wo x c hfn hc)))).trans e1⟩
  ·by_cases hj:j=i
   ·subst hj;rw [hi] at e1;cases e1;rw [List.getElem?_set_self XO] at e2;cases e2;exact ⟨u,r,.inr ⟨.inl hk,c,hc,TL⟩⟩
   ·rw [List.getElem?_set_ne (Ne.symm hj)] at e2;obtain ⟨u',r',q⟩:=hl j y v' e1 e2 e3;refine ⟨u',r',?_⟩;rcases q with q | ⟨k,c',e,z'⟩
    ·exact .inl q
    ·refine .inr ⟨k,c',e,z'.sameBut hs ?_⟩;rintro rfl;exact hj (tR hN e1 (I.ok.inj _ _ _ e hc ▸ hi))
  ·by_cases hcc:c'=c
   ·subst hcc;exact ⟨_,TL⟩
   ·obtain ⟨w2,z2⟩:=I.cell y c' e;exact ⟨w2,z2.sameBut hs hcc⟩
  ·obtain ⟨e,n,ne,nf,d⟩:=I.pin p hp;refine ⟨(hs.2 p.1 ?_).trans e,n,ne,nf,d⟩;intro q;rw [q,hoc] at e;have q':oc=p.2:=Option.some.inj e;exact d w' (by rw [<-q'];exact aaf)
theorem gS {M:Model}{A:Around}{E:Value->Shared->Prop}{i:Nat}{x:Str}{v:V}{u:Value}{Q:Unit->Shared->Prop}(I:Inv X aa σ H s)(hN:X.N.Nodup)(hi:X.N[i]?=some x)(hx:Loc X.env.scope x)(r:RelV v u)
  (h:∀ s',Inv X aa (σ.set i (some v)) H s'->Q () s') (hf:X.fn x=true\/X.env.scope.names.lookup x=some .local:=by first | exact .inl rfl | exact .inr rfl | assumption):wpAny M A (storeName X.env x u) Q E s:=
 NG I hN hi hx r (λs' I' _=>h s' I') hf
theorem Inv.Nj {s':Shared}{ch:List Addr}(I:Inv X aa σ H s)(ho:s'.os=s.os)(u:Un (mq X.stack) ch H H' s.heap s'.heap)(aY:gP X.prog X.w H' s'.heap)(hg:AllBare s'.gens)
  (Rl:∀ b∈ch,(b∈X.ex\/X.cP.heap.objs.size<=b)/\b≠X.env.locals/\(∀ x c,X.env.cells.lookup x=some c->c≠b)/\∀ p∈X.pn++aa,p.1≠b):Inv X aa σ H' s':=by
 obtain ⟨h',g',d',t',o'⟩:=s';have e:o'=s.os:=ho;subst e;exact I.call (g':=g') (t':=t') (d':=d') u aY hg Rl
end
noncomputable abbrev XK:=Value->Option Addr->Hp->Prop
noncomputable abbrev St:=List (Option V)
noncomputable abbrev VK:=V->Hp->Prop
noncomputable abbrev TE:=St->Hp->VK->Prop
noncomputable abbrev TT:=St->Hp->(Bool->Hp->Prop)->Prop
noncomputable abbrev TA:=St->Hp->(List V->Hp->Prop)->Prop
structure Ends where
 nx:St->Hp->Prop
 rt:VK
 bk:St->Hp->Prop:=λ_ _=>False
 ct:St->Hp->Prop:=λ_ _=>False
noncomputable abbrev TS:=Ends->St->Hp->Prop
noncomputable def EP (X:Cx)(aa:List (Addr×Obj))(σ:St)(Q:VK)(u:Value)(s':Shared):Prop:=∃ v H',Inv X aa σ H' s'/\RelV v u/\Q v H'
noncomputable def TP (X:Cx)(aa:List (Addr×Obj))(σ:St)(Q:Bool->Hp->Prop)(b:Bool)(s':Shared):Prop:=∃ H',Inv X aa σ H' s'/\Q b H'
noncomputable def AP (X:Cx)(aa:List (Addr×Obj))(σ:St)(Q:List V->Hp->Prop)(us:List Value)(s':Shared):Prop:=∃ vs H',Inv X aa σ H' s'/\Vals vs us/\Q vs H'
noncomputable def SP (X:Cx)(aa:List (Addr×Obj))(D:Ends)(f:Flow)(s':Shared):Prop:=
 match f with
 | .next=>∃ cz H',Inv X aa cz H' s'/\D.nx cz H'
 | .brk=>∃ cz H',Inv X aa cz H' s'/\D.bk cz H'
 | .cont=>∃ cz H',Inv X aa cz H' s'/\D.ct cz H'
 | .ret u=>∃ v cz H',Inv X aa cz H' s'/\RelV v u/\D.rt v H'
noncomputable def PE (X:Cx)(e:Expr)(t:TE):Prop:=
 ∀ (aa:List (Addr×Obj)) (s:Shared) (σ:St) (H:Hp) (Q:VK),Inv X aa σ H s->t σ H Q->wpAny (model X.prog X.w) X.A (eval e X.env) (EP X aa σ Q) X.xe s
noncomputable def PT (X:Cx)(e:Expr)(t:TT):Prop:=
 ∀ (aa:List (Addr×Obj)) (s:Shared) (σ:St) (H:Hp) (Q:Bool->Hp->Prop),Inv X aa σ H s->t σ H Q->wpAny (model X.prog X.w) X.A (isTrue e X.env (eval e X.env)) (TP X aa σ Q) X.xe s
noncomputable def PW (X:Cx)(e:Expr)(t:TT):Prop:=
 ∀ (whole:Sem Value) (aa:List (Addr×Obj)) (s:Shared) (σ:St) (H:Hp) (Q:Bool->Hp->Prop),Inv X aa σ H s->t σ H Q->wpAny (model X.prog X.w) X.A (isTrue e X.env whole) (TP X aa σ Q) X.xe s
theorem PW.pt {X:Cx}{e:Expr}{t:TT}(h:PW X e t):PT X e t:=h _
noncomputable def PA (X:Cx)(es:List Expr)(t:TA):Prop:=
 ∀ (pos:Pos) (aa:List (Addr×Obj)) (s:Shared) (σ:St) (H:Hp) (Q:List V->Hp->Prop),Inv X aa σ H s->t σ H Q->wpAny (model X.prog X.w) X.A (spliced (backTo pos (starEach es X.env))) (AP X aa σ Q) X.xe s
noncomputable def PS (X:Cx)(st:Stmt)(t:TS):Prop:=
 ∀ (aa:List (Addr×Obj)) (s:Shared) (σ:St) (H:Hp) (D:Ends),Inv X aa σ H s->t D σ H->wpAny (model X.prog X.w) X.A (exec st X.env) (SP X aa D) X.xe s
noncomputable def qK (X:Cx)(st:List Stmt)(t:TS):Prop:=
 ∀ (aa:List (Addr×Obj)) (s:Shared) (σ:St) (H:Hp) (D:Ends),Inv X aa σ H s->t D σ H->wpAny (model X.prog X.w) X.A (execs st X.env) (SP X aa D) X.xe s
theorem bu {α:Type}{t:Sem α}{Q Q':α->Shared->Prop}{M:Model}{A:Around}{E:Value->Shared->Prop}{s:Shared}(h:wpAny M A t Q E s)(hQ:∀ a s,Q a s->Q' a s):wpAny M A t Q' E s:=wpAny_mono h hQ λ_ _ x=>x
section
variable {X:Cx}
noncomputable def sU (i:Nat):TE:=fun σ H Q=>∃ v,σ[i]?=some (some v)/\Q v H
noncomputable def tC (v:V):TE:=λ_ H Q=>Q v H
theorem UI {i:Nat}{x:Str}{pos:Pos}(hN:X.N[i]?=some x)(hv:Zg X.env.scope x)(hd:(x == ("__debug__" : Str))=false:=by decide)(rN:(x == ("__classdict__" : Str))=false:=by decide):PE X (.Name x pos) (sU i):=by
 intro aa s σ H Q I h;obtain ⟨v,e,h⟩:=h;obtain ⟨m,hn,hl⟩:=I.loc;obtain ⟨u,r,l⟩:=hl i x v hN e hv;have fin:EP X aa σ Q u s:=⟨v,H,I,r,h⟩;rcases l with ⟨hk,hm⟩ | ⟨hk,c,hc,Na⟩
 ·exact wpAny_Name (wpAny_loadName_local I.ok.kind hk hn hm fin) hd
 ·rcases hk with hk | hk
  ·exact wpAny_Name (wpAny_loadName_cell I.ok.kind hk hc Na fin) hd
  ·exact wpAny_Name (wpAny_loadName_free I.ok.kind hk hc Na fin rN) hd
theorem xg {i j pos}:PE X (.Constant (.int i) j pos) (tC (.int i)):=λ_ _ _ H _ I h=>wpAny_Constant_int ⟨.int i,H,I.tok _,⟨_,rfl⟩,h⟩
theorem eK {b j pos}:PE X (.Constant (.bool b) j pos) (tC (.bl b)):=λ_ _ _ H _ I h=>Constant_bool ⟨.bl b,H,I,rfl,h⟩
theorem je {j pos}:PE X (.Constant .none j pos) (tC .cI):=λ_ _ _ H _ I h=>Constant_none ⟨.cI,H,I,rfl,h⟩
theorem gY {x j pos}:PE X (.Constant (.str x) j pos) (tC (.str x)):=λ_ _ _ H _ I h=>Calls.Constant_str ⟨.str x,H,I.tok _,⟨_,rfl⟩,h⟩
noncomputable def Gl (X:Cx)(x:Str):Prop:=X.env.kindOf x=some .globalImplicit
theorem iK {E:Value->Shared->Prop}{aa:List (Addr×Obj)}{s:Shared}{σ:St}{H:Hp}{x:Str}{u:Value}{pos:Pos}{Q:Value->Shared->Prop}(I:Inv X aa σ H s)(hg:Gl X x)(hm:X.mg x=some u)(h:Q u s)
  (hd:(x == ("__debug__" : Str))=false:=by decide):wpAny (model X.prog X.w) X.A (eval (.Name x pos) X.env) Q E s:=
 Calls.Name_function_global I.ok.kind hg (Calls.loadGlobal_global (by rw [I.ok.glob];exact I.mod.glob.keeps I.bk) hm h) hd
theorem fX {E:Value->Shared->Prop}{aa:List (Addr×Obj)}{s:Shared}{σ:St}{H:Hp}{x:Str}{u:Value}{pos:Pos}{Q:Value->Shared->Prop}(I:Inv X aa σ H s)(hg:Gl X x)(hm:X.mg x=none)(hv:bootBuiltins x=some u)(h:Q u s)
  (hn:x ≠ "__name__" := by decide) (hd:(x == ("__debug__" : Str))=false:=by decide):wpAny (model X.prog X.w) X.A (eval (.Name x pos) X.env) Q E s:=by
 obtain ⟨mb,h1,h2⟩:=I.mod.blt;exact Calls.Name_function_global I.ok.kind hg (Calls.loadGlobal_builtin (by rw [I.ok.glob];exact I.mod.glob.keeps I.bk) hm (by rw [I.ok.blt];exact h1.keeps I.bk) ((h2 x hn).trans hv) h) hd
theorem iJ {x:Str}{v:V}{u:Value}{pos:Pos}(hg:Gl X x)(hm:X.mg x=some u)(r:RelV v u)(hd:(x == ("__debug__" : Str))=false:=by decide):PE X (.Name x pos) (tC v):=
 λ_ _ _ H _ I h=>iK I hg hm ⟨v,H,I,r,h⟩ hd
theorem cZ {x:Str}{v:V}{u:Value}{pos:Pos}(hg:Gl X x)(hm:X.mg x=none)(hv:bootBuiltins x=some u)(r:RelV v u)(hn:x ≠ "__name__" := by decide)(hd:(x == ("__debug__" : Str))=false:=by decide):PE X (.Name x pos) (tC v):=
 λ_ _ _ H _ I h=>fX I hg hm hv ⟨v,H,I,r,h⟩ hn hd
variable {a b:Expr}{ta tb:TE}{pos:Pos}
noncomputable def PC (X:Cx)(op:CmpOp)(a b:Expr)(t:TE):Prop:=
 ∀ (aa:List (Addr×Obj)) (s:Shared) (σ:St) (H:Hp) (Q:VK),Inv X aa σ H s->t σ H Q ->
  wpAny (model X.prog X.w) X.A (eval a X.env) (λv bG=>wpAny (model X.prog X.w) X.A (eval b X.env) (λu ki=>wpAny (model X.prog X.w) X.A (compareOp op v u) (EP X aa σ Q) X.xe ki) X.xe bG) X.xe s
theorem tT (b:Expr){op:CmpOp}(h:op≠.In)(h2:op≠.NotIn):behindInMarks op b=false:=by
 have e1:(op == CmpOp.In)=false:=by cases op <;> first | rfl | exact absurd rfl h
 have e2:(op == CmpOp.NotIn)=false:=by cases op <;> first | rfl | exact absurd rfl h2
 cases b <;> simp [behindInMarks,e1,e2]
noncomputable def Zt (ta:TE):TE:=fun σ H Q=>ta σ H λx H1=>Q (.bl (decide (x=.cI))) H1
noncomputable def WA (ta:TE):TE:=fun σ H Q=>ta σ H λx H1=>Q (.bl (!decide (x=.cI))) H1
theorem RelV.tQ {x:V}{v:Value}(r:RelV x v):(v == Value.none)=decide (x=.cI):=by
 cases x with
 | cI=>cases r;rfl
 | bl _=>cases r;rfl
 | int _=>obtain ⟨t,rfl⟩:=r;rfl
 | str _=>obtain ⟨t,rfl⟩:=r;rfl
 | OC _=>obtain ⟨t,rfl⟩:=r;rfl
 | TU _=>obtain ⟨t,rfl⟩:=r;rfl
 | ref _=>cases r;rfl
 | ty _=>cases r;rfl
theorem rB {j pos'}(ha:PE X a ta):PC X .Is a (.Constant .none j pos') (Zt ta):=by intro aa s σ H Q I h;refine bu (ha aa s σ H _ I h) λv s1 ⟨x,H1,I1,r1,q1⟩=>?_;exact Constant_none (is_none_gen ⟨.bl _,H1,I1,by rw [r1.tQ];rfl,q1⟩)
theorem jH {j pos'}(ha:PE X a ta):PC X .IsNot a (.Constant .none j pos') (WA ta):=by intro aa s σ H Q I h;refine bu (ha aa s σ H _ I h) λv s1 ⟨x,H1,I1,r1,q1⟩=>?_;exact Constant_none (isnot_none_gen ⟨.bl _,H1,I1,by rw [r1.tQ];rfl,q1⟩)
noncomputable def tB (t:TE):TT:=fun σ H Q=>t σ H λx H1=>∃ c,x=.bl c/\Q c H1
theorem rA {op:CmpOp}{t:TE}(h:PC X op a b t)(h1:behindInMarks op b=false:=by first | exact tT _ (by decide) (by decide) | rfl):PE X (.Compare a [op] [b] pos) t:=λaa s σ H Q I hw=>wpAny_Compare1 (h aa s σ H Q I hw) h1
theorem nB {op:CmpOp}{t:TE}(h:PC X op a b t)(h1:behindInMarks op b=false:=by first | exact tT _ (by decide) (by decide) | rfl):PT X (.Compare a [op] [b] pos) (tB t):=by intro aa s σ H Q I hw;refine wpAny_isTrue_Compare1 (bu (h aa s σ H _ I hw) λv s1 h1=>bu h1 λu s2 h2=>bu h2 λc s3 ⟨x,H1,I1,r1,q1⟩=>?_) h1;obtain ⟨d,rfl,q⟩:=q1;cases r1;exact wpAny_truthy_bool ⟨H1,I1,q⟩
theorem wd {e:Expr}{t:TE}(h:PE X e t)(he:∀ whole,isTrue e X.env whole=(do let v <- whole;standAt e.pos;holding [v] (truthy v)):=by intro _;rfl):PT X e (tB t):=by intro aa s σ H Q I hw;refine isTrue_plain (bu (h aa s σ H _ I hw) λv s1 ⟨x,H1,I1,r1,q1⟩=>?_) (he _);obtain ⟨d,rfl,q⟩:=q1;cases r1;exact wpAny_truthy_bool ⟨H1,I1,q⟩
variable {tA Yx:TT}{rest:List Expr}
noncomputable def vz (t u:TT):TT:=fun σ H Q=>t σ H λc H1=>if c=true then u σ H1 Q else Q false H1
noncomputable def Uh (t u:TT):TT:=fun σ H Q=>t σ H λc H1=>if c=true then Q true H1 else u σ H1 Q
noncomputable def vq (t:TT):TT:=fun σ H Q=>t σ H λc H1=>Q (!c) H1
theorem iH (ha:PT X a tA):PW X (.BoolOp .And [a] pos) tA:=by
 intro wh aa s σ H Q I h;refine isTrue_and (bu (ha aa s σ H Q I h) λc s1 e=>?_);cases c with
 | true=>exact isTrue_and_nil e
 | false=>exact e
theorem dO (ha:PT X a tA):PW X (.BoolOp .Or [a] pos) tA:=by
 intro wh aa s σ H Q I h;refine isTrue_or (bu (ha aa s σ H Q I h) λc s1 e=>?_);cases c with
 | false=>exact isTrue_or_nil e
 | true=>exact e
theorem kr (ha:PT X a tA)(hb:PW X (.BoolOp .And (b::rest) pos) Yx):PW X (.BoolOp .And (a::b::rest) pos) (vz tA Yx):=by
 intro wh aa s σ H Q I h;refine isTrue_and (bu (ha aa s σ H _ I h) λc s1 ⟨H1,I1,q1⟩=>?_);cases c with
 | true=>exact hb wh aa s1 σ H1 Q I1 q1
 | false=>exact ⟨H1,I1,q1⟩
theorem gU (ha:PT X a tA)(hb:PW X (.BoolOp .Or (b::rest) pos) Yx):PW X (.BoolOp .Or (a::b::rest) pos) (Uh tA Yx):=by
 intro wh aa s σ H Q I h;refine isTrue_or (bu (ha aa s σ H _ I h) λc s1 ⟨H1,I1,q1⟩=>?_);cases c with
 | true=>exact ⟨H1,I1,q1⟩
 | false=>exact hb wh aa s1 σ H1 Q I1 q1
theorem wq (ha:PT X a tA):PT X (.UnaryOp .Not a pos) (vq tA):=by intro aa s σ H Q I h;exact isTrue_not (ha aa s σ H (λc H1=>Q (!c) H1) I h)
noncomputable def mT (ta tb:TE):TE:=fun σ H Q=>ta σ H λx H1=>∃ c,x=.bl c/\if c=true then tb σ H1 Q else Q (.bl false) H1
noncomputable def NF (ta tb:TE):TE:=fun σ H Q=>ta σ H λx H1=>∃ c,x=.bl c/\if c=true then Q (.bl true) H1 else tb σ H1 Q
noncomputable def mQ (ta:TE):TE:=fun σ H Q=>ta σ H λx H1=>∃ c,x=.bl c/\Q (.bl (!c)) H1
theorem gZ {op}{t:TE}(h:PE X a t):PE X (.BoolOp op [a] pos) t:=λaa s σ H Q I hw=>BoolOp_one (h aa s σ H Q I hw)
theorem dR (ha:PE X a ta)(hb:PE X (.BoolOp .And (b::rest) pos) tb):PE X (.BoolOp .And (a::b::rest) pos) (mT ta tb):=by
 intro aa s σ H Q I h;refine BoolOp_and (bu (ha aa s σ H _ I h) λv s1 ⟨x,H1,I1,r1,q1⟩=>?_);obtain ⟨c,rfl,q1⟩:=q1;cases r1;refine wpAny_truthy_bool ?_;cases c with
 | true=>exact hb aa s1 σ H1 Q I1 q1
 | false=>exact ⟨.bl false,H1,I1,rfl,q1⟩
theorem PR (ha:PE X a ta):PE X (.UnaryOp .Not a pos) (mQ ta):=by intro aa s σ H Q I h;refine UnaryOp_ (bu (ha aa s σ H _ I h) λv s1 ⟨x,H1,I1,r1,q1⟩=>?_);obtain ⟨c,rfl,q1⟩:=q1;cases r1;exact not_of (wpAny_truthy_bool ⟨.bl (!c),H1,I1,rfl,q1⟩)
noncomputable def tIf (t:TT)(ta tb:TE):TE:=fun σ H Q=>t σ H λc H1=>if c=true then ta σ H1 Q else tb σ H1 Q
theorem jF {c:Expr}(hc:PT X c tA)(ha:PE X a ta)(hb:PE X b tb):PE X (.IfExp c a b pos) (tIf tA ta tb):=by
 intro aa s σ H Q I h;refine wpAny_IfExp (bu (hc aa s σ H _ I h) λd s1 ⟨H1,I1,q1⟩=>?_);cases d with
 | true=>exact ha aa s1 σ H1 Q I1 q1
 | false=>exact hb aa s1 σ H1 Q I1 q1
end
noncomputable def aL (K:PySem.W.Frag)(H:Hp)(a:Addr)(xs:List V):Prop:=
 Rd H a (.lst xs) \/
  ∃ (o:Obj) (aC:Array Value) (n:Nat),K.lookup a=some o/\o.cls=.type "list" /\ o.dict=none/\o.data=.seq aC n/\aC.size<=sizeLine/\Vals xs aC.toList
noncomputable def cD (K:PySem.W.Frag)(H:Hp)(a:Addr)(xs:List V):Prop:=
 Rd H a (.tup xs) \/
  ∃ (o:Obj) (aC:Array Value) (n:Nat),K.lookup a=some o/\o.cls=.type "tuple" /\ o.data=.seq aC n/\aC.size<=sizeLine/\Vals xs aC.toList
noncomputable def aaT:Value->Option V
 | .none=>some .cI
 | .bool b=>some (.bl b)
 | .int i _=>some (.int i)
 | .str x _=>some (.str x)
 | .bytes b _=>some (.OC b)
 | .float b _=>some (.TU b)
 | .ref a=>some (.ref a)
 | .type n=>some (.ty n)
 | _=>none
theorem RelV.abs {x:V}{u:Value}(r:RelV x u):aaT u=some x:=by
 cases x with
 | cI=>cases r;rfl
 | bl _=>cases r;rfl
 | int _=>obtain ⟨t,rfl⟩:=r;rfl
 | str _=>obtain ⟨t,rfl⟩:=r;rfl
 | OC _=>obtain ⟨t,rfl⟩:=r;rfl
 | TU _=>obtain ⟨t,rfl⟩:=r;rfl
 | ref _=>cases r;rfl
 | ty _=>cases r;rfl
theorem RelV.inj {x y:V}{u:Value}(r:RelV x u)(q:RelV y u):x=y:=Option.some.inj (r.abs.symm.trans q.abs)
theorem Vals.inj:∀ {xs ys:List V}{us:List Value},Vals xs us->Vals ys us->xs=ys
 | _,_,_,.nil,.nil=>rfl
 | _,_,_,.cons r t,.cons r' t'=>by rw [r.inj r',Vals.inj t t']
section
variable {X:Cx}{aa:List (Addr×Obj)}{σ:St}{H:Hp}{s:Shared}{a:Addr}{xs ys:List V}
theorem aL.of {K:PySem.W.Frag}(h:H a=some (.lst xs)):aL K H a xs:=.inl (.inl h)
theorem cD.of {K:PySem.W.Frag}(h:H a=some (.tup xs)):cD K H a xs:=.inl (.inl h)
theorem Inv.list (I:Inv X aa σ H s)(h:aL X.K H a xs):∃ aC:List Value,Vals xs aC/\PlainL s.heap a aC.toArray/\xs.length<=sizeLine:=by
 rcases h with h | ⟨o,aC,n,hk,hc,hd,hs,hz,r⟩
 ·obtain ⟨z,aC,n,r,e⟩:=h.ok I.aY;exact ⟨aC,r,⟨_,n,e,rfl,rfl,rfl⟩,z⟩
 ·refine ⟨aC.toList,r,⟨o,n,I.jM a o hk,hc,hd,by simpa using hs⟩,?_⟩;have e:=r.length;simp only [Array.length_toList] at e;omega
theorem Inv.tuple (I:Inv X aa σ H s)(h:cD X.K H a xs):∃ aC:List Value,Vals xs aC/\IsTup s.heap a aC.toArray/\xs.length<=sizeLine:=by
 rcases h with h | ⟨o,aC,n,hk,hc,hs,hz,r⟩
 ·obtain ⟨z,aC,r,p⟩:=h.ok I.aY;exact ⟨aC,r,p,z.1⟩
 ·refine ⟨aC.toList,r,⟨o,I.jM a o hk,hc,n,by simpa using hs⟩,?_⟩;have e:=r.length;simp only [Array.length_toList] at e;omega
theorem Inv.ud (I:Inv X aa σ H s)(h:aL X.K H a xs)(h':aL X.K H a ys):xs=ys:=by
 obtain ⟨aC,r,⟨o,n,e,_,_,d⟩,_⟩:=I.list h;obtain ⟨its',r',⟨o',n',e',_,_,d'⟩,_⟩:=I.list h';rw [e] at e';cases e';rw [d] at d';injection d' with d1 _
 have:aC=its':=by simpa using congrArg Array.toList d1
 subst this;exact r.inj r'
theorem Inv.pR (I:Inv X aa σ H s)(h:cD X.K H a xs)(h':cD X.K H a ys):xs=ys:=by
 obtain ⟨aC,r,⟨o,e,_,n,d⟩,_⟩:=I.tuple h;obtain ⟨its',r',⟨o',e',_,n',d'⟩,_⟩:=I.tuple h';rw [e] at e';cases e';rw [d] at d';injection d' with d1 _
 have:aC=its':=by simpa using congrArg Array.toList d1
 subst this;exact r.inj r'
end
noncomputable abbrev Cx.iP (X:Cx)(E:Value->Shared->Prop):Cx:={ X with xe:=E }
noncomputable abbrev Cx.rE (X:Cx):Cx:=X.iP λ_ _=>False
theorem Cx.Ok.iP {X:Cx}(ok:X.Ok)(E:Value->Shared->Prop):(X.iP E).Ok:=
 ⟨ok.mod,ok.kind,ok.glob,ok.blt,ok.above,ok.inj,ok.has,ok.Wo,ok.hd,ok.frames,ok.WJ,ok.exf,ok.bs,ok.OP,ok.N4,ok.QH,ok.gc,ok.QF⟩
theorem Cx.Ok.cE {X:Cx}{E:Value->Shared->Prop}(ok:(X.iP E).Ok):X.Ok:=
 ⟨ok.mod,ok.kind,ok.glob,ok.blt,ok.above,ok.inj,ok.has,ok.Wo,ok.hd,ok.frames,ok.WJ,ok.exf,ok.bs,ok.OP,ok.N4,ok.QH,ok.gc,ok.QF⟩
section
variable {X:Cx}{aa:List (Addr×Obj)}{σ:St}{H:Hp}{s:Shared}{E:Value->Shared->Prop}
theorem Inv.iP (I:Inv X aa σ H s)(E:Value->Shared->Prop):Inv (X.iP E) aa σ H s:=⟨I.ok.iP E,I.os,I.bare,I.base,I.loc,I.cell,I.free,I.gF,I.pin,I.aY,I.len⟩
theorem Inv.cE (I:Inv (X.iP E) aa σ H s):Inv X aa σ H s:=⟨I.ok.cE,I.os,I.bare,I.base,I.loc,I.cell,I.free,I.gF,I.pin,I.aY,I.len⟩
theorem SP.cE {D:Ends}{f:Flow}{s':Shared}(h:SP (X.iP E) aa D f s'):SP X aa D f s':=by
 cases f with
 | next=>obtain ⟨cz,H',I,q⟩:=h;exact ⟨cz,H',I.cE,q⟩
 | brk=>obtain ⟨cz,H',I,q⟩:=h;exact ⟨cz,H',I.cE,q⟩
 | cont=>obtain ⟨cz,H',I,q⟩:=h;exact ⟨cz,H',I.cE,q⟩
 | ret u=>obtain ⟨v,cz,H',I,r,q⟩:=h;exact ⟨v,cz,H',I.cE,r,q⟩
theorem PE.rE {e:Expr}{t:TE}(h:PE X.rE e t):PE X e t:=λaa s σ H Q I hw=>
 wpAny_mono (h aa s σ H Q (I.iP _) hw) (λ_ _ ⟨v,H',I',r,q⟩=>⟨v,H',I'.cE,r,q⟩) λ_ _ z=>False.elim z
theorem qK.rE {st:List Stmt}{t:TS}(h:qK X.rE st t):qK X st t:=λaa s σ H D I hw=>
 wpAny_mono (h aa s σ H D (I.iP _) hw) (λ_ _ q=>q.cE) λ_ _ z=>False.elim z
end
section
variable {X:Cx}{st:Stmt}{rest:List Stmt}{t u:TS}{e:Expr}{te:TE}{pos:Pos}
noncomputable def iV:TS:=λD σ H=>D.nx σ H
noncomputable def lN (t u:TS):TS:=λD σ H=>t { D with nx:=u D } σ H
theorem wC:qK X [] iV:=λ_ _ σ H _ I h=>wpAny_execs_nil ⟨σ,H,I,h⟩
theorem PJ (h1:PS X st t)(h2:qK X rest u):qK X (st::rest) (lN t u):=by
 intro aa s σ H D I h;refine wpAny_execs_cons (bu (h1 aa s σ H { D with nx:=u D } I h) λf s1 q=>?_);cases f with
 | next=>
  obtain ⟨cz,H',I',q⟩:=q;exact h2 aa s1 cz H' D I' q
 | ret v=>exact q
 | brk=>exact q
 | cont=>exact q
theorem R4 (h1:PS X st t):qK X [st] t:=by
 intro aa s σ H D I h;refine wpAny_execs_cons (bu (h1 aa s σ H D I h) λf s1 q=>?_);cases f with
 | next=>exact wpAny_execs_nil q
 | ret v=>exact q
 | brk=>exact q
 | cont=>exact q
theorem Inv.quiet {aa:List (Addr×Obj)}{σ:St}{H:Hp}{s:Shared}(I:Inv X aa σ H s):interactive X.env=false:=by simp [interactive,I.ok.kind]
noncomputable def mR (te:TE):TS:=λD σ H=>te σ H λ_ H1=>D.nx σ H1
theorem wS (he:PE X e te)(hs:swapsWith e none pos.line X.env=pure false:=by rfl):PS X (.Expr e pos) (mR te):=by intro aa s σ H D I h;exact wpAny_Expr_any (bu (he aa s σ H _ I h) λv s1 ⟨x,H1,I1,r1,q1⟩=>⟨σ,H1,I1,q1⟩) I.quiet hs
noncomputable def vo (te:TE):TS:=λD σ H=>te σ H D.rt
theorem xv (he:PE X e te):PS X (.Return (some e) pos) (vo te):=by intro aa s σ H D I h;exact wpAny_Return_some (bu (he aa s σ H _ I h) λv s1 ⟨x,H1,I1,r1,q1⟩=>⟨x,σ,H1,I1,r1,q1⟩)
noncomputable def vv (c:TT)(t u:TS):TS:=λD σ H=>c σ H λb H1=>if b=true then t D σ H1 else u D σ H1
theorem wG {c:Expr}{a b:List Stmt}{tc:TT}(hc:PT X c tc)(ha:qK X a t)(hb:qK X b u):PS X (.If c a b pos) (vv tc t u):=by
 intro aa s σ H D I h;refine wpAny_If (bu (hc aa s σ H _ I h) λd s1 ⟨H1,I1,q1⟩=>?_);cases d with
 | true=>exact ha aa s1 σ H1 D I1 q1
 | false=>exact hb aa s1 σ H1 D I1 q1
end
noncomputable abbrev TG:=V->St->Hp->(St->Hp->Prop)->Prop
noncomputable abbrev Rq:=List V->St->Hp->(St->Hp->Prop)->Prop
noncomputable def PG (X:Cx)(target:Expr)(t:TG):Prop:=
 ∀ (aa:List (Addr×Obj)) (s:Shared) (σ:St) (H:Hp) (v:V) (u:Value) (Q:St->Hp->Prop),Inv X aa σ H s->RelV v u->t v σ H Q ->
  wpAny (model X.prog X.w) X.A (assign target X.env u) (λ_ s'=>∃ cz H',Inv X aa cz H' s'/\Q cz H') X.xe s
noncomputable def Wr (X:Cx)(ts:List Expr)(t:Rq):Prop:=
 ∀ (aa:List (Addr×Obj)) (s:Shared) (σ:St) (H:Hp) (vs:List V) (us:List Value) (Q:St->Hp->Prop),Inv X aa σ H s->Vals vs us->t vs σ H Q ->
  wpAny (model X.prog X.w) X.A (assignInOrder ((assignEach ts X.env).map (·.2)) us) (λ_ s'=>∃ cz H',Inv X aa cz H' s'/\Q cz H') X.xe s
noncomputable abbrev Q4:=V->V->V->Hp->(Hp->Prop)->Prop
noncomputable def VW (X:Cx)(t:Q4):Prop:=
 ∀ (aa:List (Addr×Obj)) (s:Shared) (σ:St) (H:Hp) (o i v:V) (ov iv u:Value) (Q:Hp->Prop),Inv X aa σ H s->RelV o ov->RelV i iv->RelV v u->t o i v H Q ->
  wpAny (model X.prog X.w) X.A (setItem ov iv u) (λ_ s'=>∃ H',Inv X aa σ H' s'/\Q H') X.xe s
noncomputable abbrev Wq:=V->V->Hp->VK->Prop
noncomputable def Yn (X:Cx)(op:Operator)(t:Wq):Prop:=
 ∀ (aa:List (Addr×Obj)) (s:Shared) (σ:St) (H:Hp) (x y:V) (v u:Value) (Q:VK),Inv X aa σ H s->RelV x v->RelV y u->t x y H Q ->
  wpAny (model X.prog X.w) X.A (inplaceOp op v u) (EP X aa σ Q) X.xe s
section
variable {X:Cx}{pos:Pos}
noncomputable def fL (i:Nat):TG:=λv σ H Q=>Q (σ.set i (some v)) H
theorem xk {i:Nat}{x:Str}(hN:X.N.Nodup)(hi:X.N[i]?=some x)(hx:Loc X.env.scope x)(hf:X.fn x=true\/X.env.scope.names.lookup x=some .local:=by first | exact .inl rfl | exact .inr rfl | assumption):PG X (.Name x pos) (fL i):=by intro aa s σ H v u Q I r h;exact wpAny_assign_Name (gS I hN hi hx r (λs' I'=>⟨_,H,I',h⟩) hf)
noncomputable def Mc:Rq:=λvs σ H Q=>vs=[]/\Q σ H
noncomputable def om (t:TG)(u:Rq):Rq:=λvs σ H Q=>∃ v r,vs=v::r/\t v σ H fun cz H'=>u r cz H' Q
theorem wF:Wr X [] Mc:=by intro aa s σ H vs us Q I r h;obtain ⟨e,h⟩:=h;subst e;cases r;exact assignInOrder_nil ⟨σ,H,I,h⟩
theorem xl {e:Expr}{es:List Expr}{t:TG}{u:Rq}(h1:PG X e t)(h2:Wr X es u)
  (hs:(assignEach (e::es) X.env).map (·.2)=assign e X.env::(assignEach es X.env).map (·.2):=by rfl):Wr X (e::es) (om t u):=by
 intro aa s σ H vs us Q I r h;obtain ⟨v,vr,e1,h⟩:=h;subst e1;cases r with
 | cons r rr=>
  rw [hs];refine assignInOrder_cons (bu (h1 aa s σ H _ _ _ I r h) λ_ s1 ⟨V3,H1,I1,q1⟩=>?_);exact h2 aa s1 V3 H1 _ _ Q I1 rr q1
noncomputable def uw (K:PySem.W.Frag)(n:Nat)(t:Rq):TG:=λv σ H Q=>∃ a xs,v=.ref a/\cD K H a xs/\xs.length=n/\t xs σ H Q
theorem UH {es:List Expr}{k:Nat}{t:Rq}{n:Nat}(hc:X.calm=true)(h:Wr X es t)
  (hn:(assignEach es X.env).length=n:=by rfl) (M6:(assignEach es X.env).findIdx? (·.1)=none:=by rfl):PG X (.Tuple es k pos) (uw X.K n t):=by
 intro aa s σ H v u Q I r hw;obtain ⟨a,xs,e1,hq,hl,hw⟩:=hw;subst e1;cases r;obtain ⟨aC,rv,ht,hz⟩:=I.tuple hq;refine assign_Tuple_tuple (I.ok.hd hc) ht (by simp [hn,<- hl,rv.length]) M6 λh' hx=>?_;have I1:Inv X aa σ H { s with heap:=h' }:=I.kept (t':=s.toks) λb o e=>hx b o (zV (Heap.lt_size e)) e;exact h aa _ σ H xs _ Q I1 (by simpa using rv) hw
noncomputable def Mb (to ti:TE)(t:Q4):TG:=λv σ H Q=>to σ H λo H1=>ti σ H1 λi H2=>t o i v H2 λH3=>Q σ H3
theorem vO {o i:Expr}{to ti:TE}{t:Q4}(ho:PE X o to)(hi:PE X i ti)(hs:VW X t)
  (ha:∀ v,assign (.Subscript o i pos) X.env v=(do
   let ov <- holding [v] (eval o X.env)
   let iv <- holding [v,ov] (eval i X.env)
   standAt pos
   holding [v,ov,iv] (setItem ov iv v)
   release [v,ov,iv] []):=by intro _;rfl):PG X (.Subscript o i pos) (Mb to ti t):=by
 intro aa s σ H v u Q I r h;rw [ha];refine wpAny_bind (wpAny_holding (bu (ho aa s σ H _ I h) λov s1 ⟨x,H1,I1,r1,q1⟩=>?_));refine wpAny_bind (wpAny_holding (bu (hi aa s1 σ H1 _ I1 q1) λiv s2 ⟨y,H2,I2,r2,q2⟩=>?_));refine wpAny_bind (wpAny_standAt (wpAny_bind (wpAny_holding (bu (hs aa s2 σ H2 x y v ov iv u _ I2 r1 r2 r q2) λ_ s3 ⟨H3,I3,q3⟩=>?_))));exact wpAny_release ⟨σ,H3,I3,q3⟩
noncomputable def oY (te:TE)(g:TG):TS:=λD σ H=>te σ H λx H1=>g x σ H1 D.nx
theorem wa {tg e:Expr}{te:TE}{g:TG}(he:PE X e te)(hg:PG X tg g)(hs:swapsWithSole [tg] e pos.line X.env=pure false:=by rfl)(hw:swappedStores [tg] e X.env=pure none:=by rfl)
  (h1:(assignEach [tg] X.env).map (·.2)=[assign tg X.env]:=by rfl):PS X (.Assign [tg] e pos) (oY te g):=by
 intro aa s σ H D I h;refine wpAny_Assign_stores (bu (he aa s σ H _ I h) λv s1 ⟨x,H1,I1,r1,q1⟩=>?_) hs hw;rw [h1];exact bu (hg aa s1 σ H1 x v _ I1 r1 q1) λ_ s2 q=>q
theorem xq {i:Nat}{x:Str}{e:Expr}{te:TE}{pos':Pos}(hN:X.N.Nodup)(hi:X.N[i]?=some x)(hx:Loc X.env.scope x)(he:PE X e te)(hs:swapsWith e (some (.Name x pos')) pos.line X.env=pure false:=by rfl)(hf:X.fn x=true\/X.env.scope.names.lookup x=some .local:=by first | exact .inl rfl | exact .inr rfl | assumption) :
  PS X (.Assign [.Name x pos'] e pos) (oY te (fL i)):=by
 intro aa s σ H D I h;refine wpAny_Assign_Name (bu (he aa s σ H _ I h) λv s1 ⟨y,H1,I1,r1,q1⟩=>?_) hs;exact gS I1 hN hi hx r1 (λs2 I2=>⟨_,H1,I2,q1⟩) hf
noncomputable def Zw (i:Nat)(te:TE)(ti:Wq):TS:=λD σ H=>∃ x,σ[i]?=some (some x)/\te σ H λy H1=>ti x y H1 λz H2=>D.nx (σ.set i (some z)) H2
theorem PK {i:Nat}{x:Str}{e:Expr}{te:TE}{op:Operator}{ti:Wq}{pos':Pos}(hN:X.N.Nodup)(hi:X.N[i]?=some x)(hx:Loc X.env.scope x)(he:PE X e te)(ho:Yn X op ti)(hf:X.fn x=true\/X.env.scope.names.lookup x=some .local:=by first | exact .inl rfl | exact .inr rfl | assumption) :
  PS X (.AugAssign (.Name x pos') op e pos) (Zw i te ti):=by
 intro aa s σ H D I h;obtain ⟨v,e1,h⟩:=h;obtain ⟨m,hn,hl⟩:=I.loc;have vis:Zg X.env.scope x:=by rcases hx with k | k;exact .inl k;exact .inr (.inl k)
 obtain ⟨u,r,l⟩:=hl i x v hi e1 vis;refine wpAny_AugAssign_Name ?_;have go:wpAny (model X.prog X.w) X.A (eval e X.env) (λw ki=>wpAny (model X.prog X.w) X.A (inplaceOp op u w) (λr sV=>wpAny (model X.prog X.w) X.A (storeName X.env x r) (λ_=>SP X aa D .next) X.xe sV) X.xe ki) X.xe s:=by
  refine bu (he aa s σ H _ I h) λw s1 ⟨y,H1,I1,r1,q1⟩=>?_;refine bu (ho aa s1 σ H1 v y u w _ I1 r r1 q1) λz s2 ⟨zv,H2,I2,r2,q2⟩=>?_;exact gS I2 hN hi hx r2 (λs3 I3=>⟨_,H2,I3,q2⟩) hf
 rcases l with ⟨hk,hm⟩ | ⟨hk,c,hc,Na⟩
 ·exact wpAny_loadName_local I.ok.kind hk hn hm go
 ·rcases hk with hk | hk
  ·exact wpAny_loadName_cell I.ok.kind hk hc Na go
  ·rcases hx with k | k
   ·have:X.env.scope.names.lookup x=some .free:=hk;rw [k] at this;cases this
   ·have:X.env.scope.names.lookup x=some .free:=hk;rw [k] at this;cases this
noncomputable def mS (to ti te:TE)(Rz:V->V->Hp->VK->Prop)(Yw:Wq)(Rv:Q4):TS:=λD σ H=>to σ H λo H1=>ti σ H1 λi H2=>Rz o i H2 λx H3=>te σ H3 λy H4=>Yw x y H4 λz H5=>Rv o i z H5 λH6=>D.nx σ H6
noncomputable def Yo (X:Cx)(t:V->V->Hp->VK->Prop):Prop:=
 ∀ (aa:List (Addr×Obj)) (s:Shared) (σ:St) (H:Hp) (o i:V) (ov iv:Value) (Q:VK),Inv X aa σ H s->RelV o ov->RelV i iv->t o i H Q ->
  wpAny (model X.prog X.w) X.A (getItem ov iv) (EP X aa σ Q) X.xe s
theorem qX {o i e:Expr}{to ti te:TE}{Rz:V->V->Hp->VK->Prop}{Yw:Wq}{Rv:Q4}{op:Operator}{Rx:Pos}(ho:PE X o to)(hi:PE X i ti)(hg:Yo X Rz)(he:PE X e te)(hp:Yn X op Yw)(hs:VW X Rv)
  (ha:∀ ov iv new,augStore i ov iv new=(do holding [new,ov,iv] (setItem ov iv new);release [new,ov,iv] [];pure .next):=by intros;rfl):PS X (.AugAssign (.Subscript o i Rx) op e pos) (mS to ti te Rz Yw Rv):=by
 intro aa s σ H D I h;refine wpAny_AugAssign_SubscriptAny (bu (ho aa s σ H _ I h) λov s1 ⟨x1,H1,I1,r1,q1⟩=>?_) ha;refine bu (hi aa s1 σ H1 _ I1 q1) λiv s2 ⟨x2,H2,I2,r2,q2⟩=>?_;refine bu (hg aa s2 σ H2 x1 x2 ov iv _ I2 r1 r2 q2) λold s3 ⟨x3,H3,I3,r3,q3⟩=>?_;refine bu (he aa s3 σ H3 _ I3 q3) λv s4 ⟨x4,H4,I4,r4,q4⟩=>?_;refine bu (hp aa s4 σ H4 x3 x4 old v _ I4 r3 r4 q4) λnew s5 ⟨x5,H5,I5,r5,q5⟩=>?_;exact bu (hs aa s5 σ H5 x1 x2 x5 ov iv new _ I5 r1 r2 r5 q5) λ_ s6 ⟨H6,I6,q6⟩=>⟨σ,H6,I6,q6⟩
noncomputable def Tp (f:Int->Int->Int):Wq:=λx y H Q=>∃ i j,x=.int i/\y=.int j/\Q (.int (f i j)) H
theorem rJ:Yn X .Add (Tp λi j=>i + j):=by intro aa s σ H x y v u Q I r1 r2 h;obtain ⟨i,j,e1,e2,q⟩:=h;subst e1;subst e2;obtain ⟨t,rfl⟩:=r1;obtain ⟨t',rfl⟩:=r2;exact iadd_int ⟨.int _,H,I.tok _,⟨_,rfl⟩,q⟩
theorem Va:Yn X .Sub (Tp λi j=>i - j):=by intro aa s σ H x y v u Q I r1 r2 h;obtain ⟨i,j,e1,e2,q⟩:=h;subst e1;subst e2;obtain ⟨t,rfl⟩:=r1;obtain ⟨t',rfl⟩:=r2;exact isub_int ⟨.int _,H,I.tok _,⟨_,rfl⟩,q⟩
end
section
variable {X:Cx}{pos:Pos}
noncomputable def O6 (c:TT)(tb:TS):TS:=λD σ H=>∃ W:Nat->St->Hp->Prop,(∃ m,W m σ H)/\∀ m σ H,W m σ H ->
 c σ H λb H1=>if b=true then ∃ N:St->Hp->Prop,(∀ cz H',N cz H'->∃ m',m' < m/\W m' cz H')/\tb { D with nx:=N,ct:=N,bk:=D.nx } σ H1 else D.nx σ H1
theorem jE {c:Expr}{body:List Stmt}{tc:TT}{tb:TS}(hp:PassesOwn (model X.prog X.w) X.A X.env X.xe)(hc:PT X c tc)(hb:qK X body tb):PS X (.While c body [] pos) (O6 tc tb):=by
 intro aa s σ H D I h;obtain ⟨W,⟨m0,w0⟩,turn⟩:=h;refine wpAny_While (codeAny_whileLoop (λn s'=>∃ cz H',Inv X aa cz H' s'/\W n cz H') ?_ m0 ⟨σ,H,I,w0⟩);rintro n s1 ⟨V3,H1,I1,w1⟩;refine wpAny_passesOwn hp (bu (hc aa s1 V3 H1 _ I1 (turn n V3 H1 w1)) λb s2 ⟨H2,I2,q2⟩=>?_);cases b with
 | true=>
  obtain ⟨N,hN,q2⟩:=q2;rw [if_pos rfl];refine wpAny_passesOwn hp (bu (hb aa s2 V3 H2 _ I2 q2) λf s3 q3=>?_);cases f with
  | next=>
   obtain ⟨OU,H3,I3,n3⟩:=q3;obtain ⟨m',hm,w3⟩:=hN OU H3 n3;exact ⟨m',hm,OU,H3,I3,w3⟩
  | cont=>
   obtain ⟨OU,H3,I3,n3⟩:=q3;obtain ⟨m',hm,w3⟩:=hN OU H3 n3;exact ⟨m',hm,OU,H3,I3,w3⟩
  | brk=>exact q3
  | ret v=>exact q3
 | false=>
  rw [if_neg zO];exact wpAny_execs_nil ⟨V3,H2,I2,q2⟩
end
structure It where
 go:Nat->Hp->Prop
 sM:Nat->Hp->V->Hp->Prop
 stop:Nat->Hp->Prop
noncomputable def pH (X:Cx)(aa:List (Addr×Obj))(H:Hp)(b:Addr):Prop:=
 H b=none/\b≠X.env.locals/\b ∉ X.fs/\(b∈X.ex\/X.cP.heap.objs.size<=b)/\(∀ x c,X.env.cells.lookup x=some c->c≠b)/\∀ p∈X.pn++aa,p.1≠b
theorem Inv.Ot {X:Cx}{aa:List (Addr×Obj)}{σ:St}{H H':Hp}{s:Shared}{b:Addr}(I:Inv X aa σ H s)(hb:s.heap.objs.size<=b)(hn:H' b=none):pH X aa H' b:=by
 refine ⟨hn,yQ (zR I.lt hb),I.Xb hb,.inr (yB I.sz hb),λx c e z=>?_,λp hp z=>?_⟩
 ·obtain ⟨v,q⟩:=I.cell x c e;exact absurd (zR q.lt (by rw [z];exact hb)) (z6 _)
 ·exact absurd (zR (Heap.lt_size (I.pin p hp).1) (by rw [z];exact hb)) (z6 _)
structure Turn (P:Program) (w:World) (K:PySem.W.Frag) (tg:Expr) (J:It) (fp:List Addr) (it:Addr) (tn:Nat->Heap->Prop):Prop where
 mem:it∈fp
 obj:∀ i h,tn i h->∀ b∈fp,∃ o,h.get? b=some o/\∀ v,o.data≠.cell v
 keep:∀ i h h',tn i h->(∀ b∈fp,∀ o,h.get? b=some o->h'.get? b=some o)->tn i h'
 item:∀ (X:Cx),X.prog=P->X.w=w->X.K=K->X.calm=true->∀ (i:Nat) (aa:List (Addr×Obj)) (s:Shared) (σ:St) (H:Hp) (E:Value->Shared->Prop),Inv X aa σ H s->(∀ b∈fp,pH X aa H b)->tn i s.heap->J.go i H ->
  wpAny (model P w) X.A (pyNext (.ref it)) (λr s1=>∃ u,r=some u /\
   wpAny (model P w) X.A (letOwnedTupleGo tg (.ref it) u) (λ_ s2=>∃ x H',Inv X aa σ H' s2/\RelV x u/\J.sM i H x H'/\tn (i + 1) s2.heap/\∀ b∈fp,H' b=none) E s1) E s
 done:∀ (X:Cx),X.prog=P->X.w=w->X.K=K->X.calm=true->∀ (i:Nat) (aa:List (Addr×Obj)) (s:Shared) (σ:St) (H:Hp) (E:Value->Shared->Prop),Inv X aa σ H s->(∀ b∈fp,pH X aa H b)->tn i s.heap->J.stop i H ->
  wpAny (model P w) X.A (pyNext (.ref it)) (λr s1=>r=none/\Inv X aa σ H s1) E s
 self:∀ (A:Around) (i:Nat) (s:Shared) (Q:Value->Shared->Prop) (E:Value->Shared->Prop),tn i s.heap->Q (.ref it) s->wpAny (model P w) A (pyIter (.ref it)) Q E s
noncomputable abbrev TI:=St->Hp->(It->Hp->Prop)->Prop
noncomputable def PIE (X:Cx)(aa:List (Addr×Obj))(σ:St)(tg:Expr)(R:It->Hp->Prop)(YL:Value)(s2:Shared):Prop:=
 ∃ (it:Addr) (fp:List Addr) (tn:Nat->Heap->Prop) (J:It) (H':Hp),YL=.ref it/\Inv X aa σ H' s2/\Turn X.prog X.w X.K tg J fp it tn/\tn 0 s2.heap/\(∀ b∈fp,pH X aa H' b)/\R J H'
noncomputable def PI (X:Cx)(tg iter:Expr)(wi:TI):Prop:=
 ∀ (aa:List (Addr×Obj)) (s:Shared) (σ:St) (H:Hp) (R:It->Hp->Prop),Inv X aa σ H s->wi σ H R ->
  wpAny (model X.prog X.w) X.A (eval iter X.env) (λv s1=>wpAny (model X.prog X.w) X.A (pyIter v) (PIE X aa σ tg R) X.xe s1) X.xe s
theorem QB {M:Model}{A:Around}{E:Value->Shared->Prop}{s:Shared}{tg:Expr}{it:Addr}{u:Value}{o:Obj}{n:String}{vs:Array Value}{Q:Unit->Shared->Prop}(ho:s.heap.get? it=some o)(hc:o.cls=.type n)(hd:o.data=.fields vs)
    (hn:["enumerate", "zip", "dict_itemiterator", "dict_reverseitemiterator", "odict_iterator", "itertools.zip_longest", "itertools.pairwise"].contains n=false) (hQ:Q () s):wpAny M A (letOwnedTupleGo tg (.ref it) u) Q E s:=by
  unfold letOwnedTupleGo;cases tg <;> first
    | exact wpAny_pure hQ
    | (cases u <;> first
        | exact wpAny_pure hQ
        | (refine wpAny_bind (wpAny_load ho ?_)
           rw [hc,hd];show wpAny M A (if (["enumerate", "zip", "dict_itemiterator", "dict_reverseitemiterator", "odict_iterator", "itertools.zip_longest", "itertools.pairwise"].contains n && vs[0]? == some (rawInt _))=true then _ else _) Q E s;rw [if_neg (by intro h;rw [hn,yy] at h;cases h)];exact wpAny_pure hQ))
noncomputable def OH (K:PySem.W.Frag)(a:Addr):It:=
 ⟨λi H=>∃ xs x,aL K H a xs/\xs[i]?=some x,λi H x H'=>H'=H/\∀ xs,aL K H a xs->xs[i]?=some x,λi H=>∃ xs,aL K H a xs/\xs.length<=i⟩
noncomputable def Ws (K:PySem.W.Frag)(a:Addr):It:=
 ⟨λi H=>∃ xs x,cD K H a xs/\xs[i]?=some x,λi H x H'=>H'=H/\∀ xs,cD K H a xs->xs[i]?=some x,λi H=>∃ xs,cD K H a xs/\xs.length<=i⟩
noncomputable def Mu (lo:Int)(n:Nat):It:=⟨λi _=>i < n,λi H x H'=>H'=H/\x=.int (lo + i),λi _=>n<=i⟩
theorem Ny {P:Program}{w:World}{K:PySem.W.Frag}{tg:Expr}(a it:Addr):Turn P w K tg (OH K a) [it] it (λi h=>h.IsListIter it a i) where
 mem:=by simp
 obj:=λi h st b hb=>by
  have e:b=it:=by simpa using hb
  subst e;obtain ⟨o,e,c,d⟩:=st;exact ⟨o,e,λv z=>by rw [d] at z;cases z⟩
 keep:=λi h h' st k=>st.at λo e=>k it (by simp) o e
 item:=by
  intro X hP hw hK hc i aa s σ H E I hf st hg;subst hP hw hK;obtain ⟨xs,x,hq,hx⟩:=hg;obtain ⟨aC,rv,p,hz⟩:=I.list hq;obtain ⟨u,hu,ru⟩:=rv.get hx;obtain ⟨f0,f1,f2,f3,f4,f5⟩:=hf it (by simp);refine wpAny_pyNext_list_item st p.isList (x:=u) (by simpa using hu) λh' MA sb=>?_;have I1:Inv X aa σ H { s with heap:=h' }:=I.turned (t':=s.toks) (λb o hb e=>(sb.2 b hb).trans e) f0 f1 f3 f4 f5;obtain ⟨o,e,c,d⟩:=id MA;exact ⟨u,rfl,QB (s:={ s with heap:=h' }) e c d (by decide) ⟨x,H,I1,ru,⟨rfl,λys hy=>by rw [I.ud hy hq];exact hx⟩,MA,λb hb=>(hf b hb).1⟩⟩
 done:=by
  intro X hP hw hK hc i aa s σ H E I hf st hg;subst hP hw hK;obtain ⟨xs,hq,hx⟩:=hg;obtain ⟨aC,rv,p,hz⟩:=I.list hq;obtain ⟨f0,f1,f2,f3,f4,f5⟩:=hf it (by simp);have hl:=rv.length;exact wpAny_pyNext_list_end (I.ok.hd hc) st p.isList (by simp;omega) λh' eb=>⟨rfl,I.turned (t':=s.toks) (λb o hb e=>eb b o hb e) f0 f1 f3 f4 f5⟩
 self:=λ_ _ _ _ _ st h=>wpAny_pyIter_listiter st h
theorem vf {P:Program}{w:World}{K:PySem.W.Frag}{tg:Expr}(a it:Addr):Turn P w K tg (Ws K a) [it] it (λi h=>h.IsTupleIter it a i) where
 mem:=by simp
 obj:=λi h st b hb=>by
  have e:b=it:=by simpa using hb
  subst e;obtain ⟨o,e,c,d⟩:=st;exact ⟨o,e,λv z=>by rw [d] at z;cases z⟩
 keep:=λi h h' st k=>st.at λo e=>k it (by simp) o e
 item:=by
  intro X hP hw hK hc i aa s σ H E I hf st hg;subst hP hw hK;obtain ⟨xs,x,hq,hx⟩:=hg;obtain ⟨aC,rv,p,hz⟩:=I.tuple hq;obtain ⟨u,hu,ru⟩:=rv.get hx;obtain ⟨f0,f1,f2,f3,f4,f5⟩:=hf it (by simp);refine wpAny_pyNext_tuple_item st (show s.heap.IsTuple a aC.toArray from p) (x:=u) (by simpa using hu) λh' MA sb=>?_;have I1:Inv X aa σ H { s with heap:=h' }:=I.turned (t':=s.toks) (λb o hb e=>(sb.2 b hb).trans e) f0 f1 f3 f4 f5;obtain ⟨o,e,c,d⟩:=id MA;exact ⟨u,rfl,QB (s:={ s with heap:=h' }) e c d (by decide) ⟨x,H,I1,ru,⟨rfl,λys hy=>by rw [I.pR hy hq];exact hx⟩,MA,λb hb=>(hf b hb).1⟩⟩
 done:=by
  intro X hP hw hK hc i aa s σ H E I hf st hg;subst hP hw hK;obtain ⟨xs,hq,hx⟩:=hg;obtain ⟨aC,rv,p,hz⟩:=I.tuple hq;obtain ⟨f0,f1,f2,f3,f4,f5⟩:=hf it (by simp);have hl:=rv.length;exact wpAny_pyNext_tuple_end (I.ok.hd hc) st (show s.heap.IsTuple a aC.toArray from p) (by simp;omega) λh' eb=>⟨rfl,I.turned (t':=s.toks) (λb o hb e=>eb b o hb e) f0 f1 f3 f4 f5⟩
 self:=λ_ _ _ _ _ st h=>wpAny_pyIter_tupleiter st h
theorem vg {P:Program}{w:World}{K:PySem.W.Frag}{tg:Expr}(it:Addr)(lo:Int)(n:Nat):Turn P w K tg (Mu lo n) [it] it (λi h=>IsRangeIter h it (lo + (i:Nat) * 1) ((n:Int) - (i:Nat)) 1) where
 mem:=by simp
 obj:=λi h st b hb=>by
  have e:b=it:=by simpa using hb
  subst e;exact ⟨_,st,λv z=>by
   have z':Data.fields _=Data.cell v:=z;cases z'⟩
 keep:=λi h h' st k=>k it (by simp) _ st
 item:=by
  intro X hP hw hK hc i aa s σ H E I hf st hg;subst hP hw hK;obtain ⟨f0,f1,f2,f3,f4,f5⟩:=hf it (by simp);have W:=Walks.range (prog:=X.prog) (w:=X.w) (I.ok.hd hc) it lo 1 n;refine W.item i s _ _ hg st λv h' tk hv MA kk=>?_;obtain ⟨t,rfl⟩:=hv;have I1:Inv X aa σ H { s with heap:=h',toks:=tk }:=I.turned (λb o hb e=>kk b o (by simpa using hb) e) f0 f1 f3 f4 f5;refine ⟨_,rfl,QB (s:={ s with heap:=h',toks:=tk }) (n := "range_iterator") MA rfl rfl (by decide) ⟨.int (lo + i),H,I1,⟨t,?_⟩,⟨rfl,rfl⟩,MA,λb hb=>(hf b hb).1⟩⟩;rw [Int.mul_one]
 done:=by
  intro X hP hw hK hc i aa s σ H E I hf st hg;subst hP hw hK;obtain ⟨f0,f1,f2,f3,f4,f5⟩:=hf it (by simp);exact wpAny_pyNext_range_end (I.ok.hd hc) st (by have:n<=i:=hg;omega) λh' eb=>⟨rfl,I.turned (t':=s.toks) (λb o hb e=>eb b o hb e) f0 f1 f3 f4 f5⟩
 self:=λ_ _ _ _ _ st h=>wpAny_pyIter_rangeiter st h
section
variable {X:Cx}{tg:Expr}
noncomputable def Tq (K:PySem.W.Frag)(tl:TE):TI:=fun σ H R=>tl σ H λx H1=>∃ a,x=.ref a/\(∃ xs,aL K H1 a xs)/\R (OH K a) H1
noncomputable def Xp (K:PySem.W.Frag)(tl:TE):TI:=fun σ H R=>tl σ H λx H1=>∃ a,x=.ref a/\(∃ xs,cD K H1 a xs)/\R (Ws K a) H1
theorem R8 {l:Expr}{tl:TE}(hl:PE X l tl):PI X tg l (Tq X.K tl):=by
 intro aa s σ H R I h;refine bu (hl aa s σ H _ I h) λv s1 ⟨x,H1,I1,r1,q1⟩=>?_;obtain ⟨a,e,⟨xs,hq⟩,q⟩:=q1;subst e;cases r1;obtain ⟨aC,rv,p,hz⟩:=I1.list hq;refine wpAny_pyIter_list p.isList ?_;refine ⟨s1.heap.objs.size,[s1.heap.objs.size],_,_,H1,rfl,I1.kept (t':=s1.toks) λb o e=>Heap.get?_push_of_some _ e,Ny a _,⟨_,Heap.get?_push_size _ rfl,rfl,rfl⟩,λb hb=>?_,q⟩;have e:b=s1.heap.objs.size:=by simpa using hb
 subst e;exact I1.Ot (zD _) (I1.aY.fresh (zD _))
theorem UG {l:Expr}{tl:TE}(hl:PE X l tl):PI X tg l (Xp X.K tl):=by
 intro aa s σ H R I h;refine bu (hl aa s σ H _ I h) λv s1 ⟨x,H1,I1,r1,q1⟩=>?_;obtain ⟨a,e,⟨xs,hq⟩,q⟩:=q1;subst e;cases r1;obtain ⟨aC,rv,p,hz⟩:=I1.tuple hq;refine wpAny_pyIter_tuple (show s1.heap.IsTuple a aC.toArray from p) ?_;refine ⟨s1.heap.objs.size,[s1.heap.objs.size],_,_,H1,rfl,I1.kept (t':=s1.toks) λb o e=>Heap.get?_push_of_some _ e,vf a _,⟨_,Heap.get?_push_size _ rfl,rfl,rfl⟩,λb hb=>?_,q⟩;have e:b=s1.heap.objs.size:=by simpa using hb
 subst e;exact I1.Ot (zD _) (I1.aY.fresh (zD _))
theorem tF {aa:List (Addr×Obj)}{σ:St}{H:Hp}{s:Shared}{R:It->Hp->Prop}{E:Value->Shared->Prop}{lo hi:Int}{t u v:Tok}{tk:Nat}(I:Inv X aa σ H s)(h1:-(2 ^ 62)<=lo)(h2:lo < 2 ^ 62)(h3:-(2 ^ 62)<=hi)(h4:hi < 2 ^ 62)
  (q:R (Mu lo (hi - lo).toNat) H):wpAny (model X.prog X.w) X.A (pyIter (.ref s.heap.objs.size)) (PIE X aa σ tg R) E { s with heap:=s.heap.push { cls:=.type "range", data:=.fields #[.int lo t,.int hi u,.int 1 v] },toks:=tk }:=by
 refine wpAny_pyIter_range (IsRange.new ..) (small_one h1 h2 h3 h4) ?_;have I1:Inv X aa σ H { s with heap:=s.heap.push { cls:=.type "range", data:=.fields #[.int lo t,.int hi u,.int 1 v] },toks:=tk }:=I.kept λb o e=>Heap.get?_push_of_some _ e;refine ⟨(s.heap.push { cls:=.type "range", data:=.fields #[.int lo t,.int hi u,.int 1 v] }).objs.size,[(s.heap.push { cls:=.type "range", data:=.fields #[.int lo t,.int hi u,.int 1 v] }).objs.size],_,_,H,rfl,
  I1.kept (t':=tk) λb o e=>Heap.get?_push_of_some _ e,vg _ lo (hi - lo).toNat,?_,λb hb=>?_,q⟩
 ·have e1:lo + ((0:Nat):Int) * 1=lo:=by simp
  have e2:(((hi - lo).toNat:Nat):Int) - ((0:Nat):Int)=Builtin.Range.rangeSize lo hi 1:=by rw [rangeSize_one];split <;> omega
  show IsRangeIter _ _ (lo + ((0:Nat):Int) * 1) ((((hi - lo).toNat:Nat):Int) - ((0:Nat):Int)) 1;rw [e1,e2];exact Heap.get?_push_size _ rfl
 ·have e:b=(s.heap.push { cls:=.type "range", data:=.fields #[.int lo t,.int hi u,.int 1 v] }).objs.size:=by simpa using hb
  subst e;exact I1.Ot (zD _) (I1.aY.fresh (zD _))
noncomputable def Xr (ta:TA):TI:=fun σ H R=>ta σ H λvs H1=>∃ j:Int,vs=[.int j]/\-(2 ^ 62)<=j/\j < 2 ^ 62/\R (Mu 0 j.toNat) H1
noncomputable def Xq (ta:TA):TI:=fun σ H R=>ta σ H λvs H1=>∃ i j:Int,vs=[.int i,.int j]/\(-(2 ^ 62)<=i/\i < 2 ^ 62/\-(2 ^ 62)<=j/\j < 2 ^ 62)/\R (Mu i (j - i).toNat) H1
theorem wg {a:Expr}{ta:TA}{p pos:Pos}(hg:Gl X "range")(hm:X.mg "range" = none)(ha:PA X [a] ta)(hs:starEach [a] X.env=[(false,eval a X.env)]:=by rfl):PI X tg (.Call (.Name "range" p) [a] [] pos) (Xr ta):=by
 intro aa s σ H R I h;refine Call_ (fX I hg hm boot_range (yR (bu (ha pos aa s σ H _ I h) λus s1 ⟨vs,H1,I1,r1,q1⟩=>?_) hs rfl));obtain ⟨j,e,q1,q2,q⟩:=q1;subst e;cases r1 with
 | cons r rr=>
  cases rr;obtain ⟨t,rfl⟩:=r;exact call_range_1 (tF I1 (by omega) (by omega) q1 q2 (by simpa using q))
theorem pZ {a b:Expr}{ta:TA}{p pos:Pos}(hg:Gl X "range")(hm:X.mg "range" = none)(ha:PA X [a,b] ta)(hs:starEach [a,b] X.env=[(false,eval a X.env),(false,eval b X.env)]:=by rfl)(M7:starEach [b] X.env=[(false,eval b X.env)]:=by rfl) :
  PI X tg (.Call (.Name "range" p) [a,b] [] pos) (Xq ta):=by
 intro aa s σ H R I h;refine Call_ (fX I hg hm boot_range (yR (bu (ha pos aa s σ H _ I h) λus s1 ⟨vs,H1,I1,r1,q1⟩=>?_) (by rw [hs,M7]) (by rw [M7];rfl)));obtain ⟨i,j,e,⟨q1,q2,q3,q4⟩,q⟩:=q1;subst e;cases r1 with
 | cons r rr=>
  cases rr with
  | cons r' rr=>
   cases rr;obtain ⟨t,rfl⟩:=r;obtain ⟨t',rfl⟩:=r';exact call_range_2 (tF I1 q1 q2 q3 q4 q)
noncomputable def Zu (wi:TI)(g:TG)(tb:TS):TS:=λD σ H=>wi σ H λJ H1=>∃ W:Nat->Nat->St->Hp->Prop,(∃ m,W 0 m σ H1)/\∀ i m σ H,W i m σ H ->
 (J.stop i H/\D.nx σ H)\/(J.go i H/\∃ N:St->Hp->Prop,(∀ cz H',N cz H'->∃ m',m' < m/\W (i + 1) m' cz H')/\∀ x H',J.sM i H x H'->g x σ H' fun Nn H2=>tb { D with nx:=N,ct:=N,bk:=D.nx } Nn H2)
noncomputable def ku (fp:List Addr)(h:Heap):List (Addr×Obj):=fp.filterMap λb=>(h.get? b).map λo=>(b,o)
theorem wy {fp:List Addr}{h:Heap}{b:Addr}{o:Obj}(hb:b∈fp)(e:h.get? b=some o):(b,o)∈ku fp h:=yV.mpr ⟨b,hb,by rw [e];rfl⟩
theorem N3 {fp:List Addr}{h:Heap}{p:Addr×Obj}(hp:p∈ku fp h):p.1∈fp/\h.get? p.1=some p.2:=by
 obtain ⟨b,hb,e⟩:=yV.mp hp;cases q:h.get? b with
 | none=>rw [q] at e;cases e
 | some o=>
  rw [q] at e;have e':(b,o)=p:=Option.some.inj e;subst e';exact ⟨hb,q⟩
theorem Inv.pinned {aa:List (Addr×Obj)}{σ:St}{H:Hp}{s:Shared}{fp:List Addr}(I:Inv X aa σ H s)(hf:∀ b∈fp,pH X aa H b)(ho:∀ b∈fp,∃ o,s.heap.get? b=some o/\∀ v,o.data≠.cell v):Inv X (aa++ku fp s.heap) σ H s:=
 I.cY λp hp=>(zT.mp hp).elim (λz=>I.pin p (zK _ z)) λz=>by
  obtain ⟨hb,e⟩:=N3 z;obtain ⟨f0,f1,f2,_⟩:=hf p.1 hb;obtain ⟨o,e',d⟩:=ho p.1 hb;rw [e] at e';cases e';exact ⟨e,f0,f1,f2,d⟩
theorem Inv.fu {aa pl:List (Addr×Obj)}{σ:St}{H:Hp}{s:Shared}(I:Inv X (aa++pl) σ H s):Inv X aa σ H s:=I.cY λp hp=>I.pin p (zK _ (zd _ hp))
theorem wt {iter:Expr}{body:List Stmt}{wi:TI}{g:TG}{tb:TS}{pos:Pos}(hp:PassesOwn (model X.prog X.w) X.A X.env X.xe)(hc:X.calm=true)(hi:PI X tg iter wi)(hg:PG X tg g)(hb:qK X body tb)
  (hs:∀ x,foldedSetIterable iter X.env x=pure x:=by intro _;rfl):PS X (.For tg iter body [] pos) (Zu wi g tb):=by
 intro aa s σ H D I h;refine wpAny_For (bu (hi aa s σ H _ I h) λv s1 h1=>bu h1 λYL s2 h2=>?_) hs;obtain ⟨it,fp,tn,J,H2,e,I2,T,sI,f2,W,⟨m0,w0⟩,turn⟩:=h2;subst e
 -- acM stays true of S6 nX objects through S6 loop
 have mU:∀ {H':Hp},(∀ b∈fp,H' b=none)->∀ b∈fp,pH X aa H' b:=λhn b hb=>⟨hn b hb,(f2 b hb).2⟩;refine codeAny_forLoop_any (λn s'=>∃ i cz H',Inv X aa cz H' s'/\tn i s'.heap/\(∀ b∈fp,H' b=none)/\W i n cz H') ?_ m0 ⟨0,σ,H2,I2,sI,λb hb=>(f2 b hb).1,w0⟩;rintro n s3 ⟨i,OU,H3,I3,WK,fr3,w3⟩;rcases turn i n OU H3 w3 with ⟨stop,qn⟩ | ⟨go,N,hN,step⟩
 ·refine wpAny_passesOwn hp (bu (T.done X rfl rfl rfl hc i aa s3 OU H3 X.xe I3 (mU fr3) WK stop) λr s4 ⟨hr,I4⟩=>?_);subst hr;exact wpAny_execs_nil ⟨OU,H3,I4,qn⟩
 ·refine wpAny_passesOwn hp (bu (T.item X rfl rfl rfl hc i aa s3 OU H3 X.xe I3 (mU fr3) WK go) λr s4 ⟨u,hr,h4⟩=>?_);subst hr;refine wpAny_passesOwn hp (bu h4 λ_ s5 ⟨x,H5,I5,r5,y5,gM,VC⟩=>?_);have I5':=I5.pinned (mU VC) (T.obj _ _ gM);refine wpAny_passesOwn hp (bu (hg _ s5 OU H5 x u _ I5' r5 (step x H5 y5)) λ_ s6 ⟨σ6,H6,I6,q6⟩=>?_);refine wpAny_passesOwn hp (bu (hb _ s6 σ6 H6 _ I6 q6) λf s7 q7=>?_);have again:∀ {OT:St} {H7:Hp},Inv X (aa++ku fp s5.heap) OT H7 s7->N OT H7->∃ m,m < n/\∃ i cz H',Inv X aa cz H' s7/\tn i s7.heap/\(∀ b∈fp,H' b=none)/\W i m cz H':=λ{OT H7} I7 n7=>by
   obtain ⟨m',hm,w7⟩:=hN OT H7 n7;refine ⟨m',hm,i + 1,OT,H7,I7.fu,T.keep _ _ _ gM λb hb o e=>(I7.pin (b,o) (zK _ (zK _ (wy hb e)))).1,λb hb=>?_,w7⟩;obtain ⟨o,e,d⟩:=T.obj _ _ gM b hb;exact (I7.pin (b,o) (zK _ (zK _ (wy hb e)))).2.1
  cases f with
  | next=>obtain ⟨OT,H7,I7,n7⟩:=q7;exact again I7 n7
  | cont=>obtain ⟨OT,H7,I7,n7⟩:=q7;exact again I7 n7
  | brk=>obtain ⟨OT,H7,I7,q7⟩:=q7;exact ⟨OT,H7,I7.fu,q7⟩
  | ret v=>obtain ⟨x7,OT,H7,I7,r7,q7⟩:=q7;exact ⟨x7,OT,H7,I7.fu,r7,q7⟩
end
theorem wv {K:PySem.W.Frag}{a:Addr}{xs:List V}{g:TG}{tb:TS}{D:Ends}{σ:St}{H:Hp}(Pv:Nat->St->Hp->Prop)(h0:Pv 0 σ H)(hl:∀ i σ H,i<=xs.length->Pv i σ H->aL K H a xs)
  (hs:∀ i x σ H,xs[i]?=some x->Pv i σ H->g x σ H fun Nn H2=>tb { D with nx:=Pv (i + 1),ct:=Pv (i + 1),bk:=D.nx } Nn H2) (hd:∀ σ H,Pv xs.length σ H->D.nx σ H) :
  ∃ W:Nat->Nat->St->Hp->Prop,(∃ m,W 0 m σ H)/\∀ i m σ H,W i m σ H ->
   ((OH K a).stop i H/\D.nx σ H)\/((OH K a).go i H/\∃ N:St->Hp->Prop,(∀ cz H',N cz H'->∃ m',m' < m/\W (i + 1) m' cz H')/\∀ x H',(OH K a).sM i H x H'->g x σ H' fun Nn H2=>tb { D with nx:=N,ct:=N,bk:=D.nx } Nn H2):=by
 refine ⟨λi m σ H=>m=xs.length - i/\i<=xs.length/\Pv i σ H,⟨xs.length,by simp,zb _,h0⟩,?_⟩;rintro i m σ H ⟨rfl,hi,p⟩;have q:=hl i σ H hi p;by_cases fk:i < xs.length
 ·refine .inr ⟨⟨xs,xs[i],q,by simp [fk]⟩,Pv (i + 1),fun cz H' p'=>⟨xs.length - (i + 1),by omega,rfl,fk,p'⟩,λx H' y=>?_⟩;obtain ⟨e,y⟩:=y;subst e;exact hs i x σ _ (y xs q) p
 ·have e:i=xs.length:=by omega
  subst e;exact .inl ⟨⟨xs,q,zD _⟩,hd σ H p⟩
theorem cW {lo:Int}{n:Nat}{g:TG}{tb:TS}{D:Ends}{σ:St}{H:Hp}(Pv:Nat->St->Hp->Prop)(h0:Pv 0 σ H)
  (hs:∀ i σ H,i < n->Pv i σ H->g (.int (lo + i)) σ H fun Nn H2=>tb { D with nx:=Pv (i + 1),ct:=Pv (i + 1),bk:=D.nx } Nn H2) (hd:∀ σ H,Pv n σ H->D.nx σ H) :
  ∃ W:Nat->Nat->St->Hp->Prop,(∃ m,W 0 m σ H)/\∀ i m σ H,W i m σ H ->
   ((Mu lo n).stop i H/\D.nx σ H)\/((Mu lo n).go i H/\∃ N:St->Hp->Prop,(∀ cz H',N cz H'->∃ m',m' < m/\W (i + 1) m' cz H')/\∀ x H',(Mu lo n).sM i H x H'->g x σ H' fun Nn H2=>tb { D with nx:=N,ct:=N,bk:=D.nx } Nn H2):=by
 refine ⟨λi m σ H=>m=n - i/\i<=n/\Pv i σ H,⟨n,by simp,zb _,h0⟩,?_⟩;rintro i m σ H ⟨rfl,hi,p⟩;by_cases fk:i < n
 ·refine .inr ⟨fk,Pv (i + 1),fun cz H' p'=>⟨n - (i + 1),by omega,rfl,fk,p'⟩,λx H' y=>?_⟩;obtain ⟨e,y⟩:=y;subst e y;exact hs i σ _ fk p
 ·have e:i=n:=by omega
  subst e;exact .inl ⟨zD _,hd σ H p⟩
theorem OY {c:TT}{tb:TS}{D:Ends}{σ:St}{H:Hp}(Pv:St->Hp->Prop)(μ:St->Hp->Nat)(h0:Pv σ H)
  (hs:∀ σ H,Pv σ H->c σ H λb H1=>if b=true then tb { D with nx:=fun cz H'=>Pv cz H'/\μ cz H' < μ σ H,ct:=fun cz H'=>Pv cz H'/\μ cz H' < μ σ H,bk:=D.nx } σ H1 else D.nx σ H1)
  (mono:∀ σ H Q Q',(∀ b H1,Q b H1->Q' b H1)->c σ H Q->c σ H Q'):O6 c tb D σ H:=by
 refine ⟨λm σ H=>m=μ σ H/\Pv σ H,⟨_,rfl,h0⟩,?_⟩;rintro m σ H ⟨rfl,p⟩;refine mono σ H _ _ (λb H1 q=>?_) (hs σ H p);cases b with
 | true=>exact ⟨_,fun cz H' ⟨p',l⟩=>⟨_,l,rfl,p'⟩,q⟩
 | false=>exact q
noncomputable abbrev R2:=V->V->Hp->VK->Prop
noncomputable def gO (X:Cx)(f:Value->Value->Sem Value)(r:R2):Prop:=
 ∀ (aa:List (Addr×Obj)) (s:Shared) (σ:St) (H:Hp) (x y:V) (v u:Value) (Q:VK),Inv X aa σ H s->RelV x v->RelV y u->r x y H Q ->
  wpAny (model X.prog X.w) X.A (f v u) (EP X aa σ Q) X.xe s
noncomputable def UnR (X:Cx)(f:Value->Sem Value)(r:V->Hp->VK->Prop):Prop:=
 ∀ (aa:List (Addr×Obj)) (s:Shared) (σ:St) (H:Hp) (x:V) (v:Value) (Q:VK),Inv X aa σ H s->RelV x v->r x H Q ->
  wpAny (model X.prog X.w) X.A (f v) (EP X aa σ Q) X.xe s
noncomputable def dZ (X:Cx)(f:Value)(r:List V->Hp->VK->Prop):Prop:=
 ∀ (aa:List (Addr×Obj)) (s:Shared) (σ:St) (H:Hp) (xs:List V) (us:List Value) (Q:VK),Inv X aa σ H s->Vals xs us->r xs H Q ->
  wpAny (model X.prog X.w) X.A (call f us) (EP X aa σ Q) X.xe s
noncomputable def Ra (r:R2)(ta tb:TE):TE:=fun σ H Q=>ta σ H λx H1=>tb σ H1 λy H2=>r x y H2 Q
noncomputable def S7 (r:V->Hp->VK->Prop)(ta:TE):TE:=fun σ H Q=>ta σ H λx H1=>r x H1 Q
noncomputable def rI (C:Int->Int->Prop)(g:Int->Int->V):R2:=λx y H Q=>∃ i j,x=.int i/\y=.int j/\C i j/\Q (g i j) H
noncomputable def vM (g:Int->Int->V):R2:=λx y H Q=>∃ i j,x=.int i/\y=.int j/\Q (g i j) H
noncomputable def rU (g:Int->V):V->Hp->VK->Prop:=λx H Q=>∃ i,x=.int i/\Q (g i) H
section
variable {X:Cx}{a b c:Expr}{ta tb tc:TE}{pos:Pos}
theorem VR (ha:PE X a ta)(hb:PE X b tb){aa:List (Addr×Obj)}{s:Shared}{σ:St}{H:Hp}{R:V->V->Hp->Prop}(I:Inv X aa σ H s)
  (h:ta σ H λx H1=>tb σ H1 λy H2=>R x y H2) {Q:Value->Shared->Prop}{f:Value->Value->Sem Value}
  (hf:∀ v u s2 x y H2,Inv X aa σ H2 s2->RelV x v->RelV y u->R x y H2->wpAny (model X.prog X.w) X.A (f v u) Q X.xe s2) :
  wpAny (model X.prog X.w) X.A (eval a X.env) (λv bG=>wpAny (model X.prog X.w) X.A (eval b X.env) (λu ki=>wpAny (model X.prog X.w) X.A (f v u) Q X.xe ki) X.xe bG) X.xe s:=by
 refine bu (ha aa s σ H _ I h) λv s1 ⟨x,H1,I1,r1,q1⟩=>?_;refine bu (hb aa s1 σ H1 _ I1 q1) λu s2 ⟨y,H2,I2,r2,q2⟩=>?_;exact hf v u s2 x y H2 I2 r1 r2 q2
theorem xy {op:Operator}{r:R2}(ho:gO X (binaryOp op) r)(ha:PE X a ta)(hb:PE X b tb):PE X (.BinOp a op b pos) (Ra r ta tb):=by intro aa s σ H Q I h;exact wpAny_BinOp (VR ha hb I h λv u s2 x y H2 I2 rx ry q=>ho aa s2 σ H2 x y v u Q I2 rx ry q)
theorem Tg {op:UnaryOp}{r:V->Hp->VK->Prop}(ho:UnR X (unaryOp op) r)(ha:PE X a ta):PE X (.UnaryOp op a pos) (S7 r ta):=by intro aa s σ H Q I h;exact UnaryOp_ (bu (ha aa s σ H _ I h) λv s1 ⟨x,H1,I1,r1,q1⟩=>ho aa s1 σ H1 x v Q I1 r1 q1)
theorem YC {f:Value->Value->Sem Value}{C:Int->Int->Prop}{g:Int->Int->Int}
  (rule:∀ (i j:Int) (t u:Tok) (s:Shared) (Q:Value->Shared->Prop) (E:Value->Shared->Prop),C i j->Q (.int (g i j) s.toks) { s with toks:=s.toks + 1 }->wpAny (model X.prog X.w) X.A (f (.int i t) (.int j u)) Q E s) :
  gO X f (rI C λi j=>.int (g i j)):=by
 intro aa s σ H x y v u Q I rx ry h;obtain ⟨i,j,rfl,rfl,hc,q⟩:=h;obtain ⟨t,rfl⟩:=rx;obtain ⟨t',rfl⟩:=ry;exact rule i j t t' s _ _ hc ⟨.int (g i j),H,I.tok _,⟨_,rfl⟩,q⟩
theorem UM {f:Value->Value->Sem Value}{g:Int->Int->Int}
  (rule:∀ (i j:Int) (t u:Tok) (s:Shared) (Q:Value->Shared->Prop) (E:Value->Shared->Prop),Q (.int (g i j) s.toks) { s with toks:=s.toks + 1 }->wpAny (model X.prog X.w) X.A (f (.int i t) (.int j u)) Q E s) :
  gO X f (vM λi j=>.int (g i j)):=by
 intro aa s σ H x y v u Q I rx ry h;obtain ⟨i,j,rfl,rfl,q⟩:=h;obtain ⟨t,rfl⟩:=rx;obtain ⟨t',rfl⟩:=ry;exact rule i j t t' s _ _ ⟨.int (g i j),H,I.tok _,⟨_,rfl⟩,q⟩
theorem Sh {f:Value->Value->Sem Value}{g:Int->Int->Bool}
  (rule:∀ (i j:Int) (t u:Tok) (s:Shared) (Q:Value->Shared->Prop) (E:Value->Shared->Prop),Q (.bool (g i j)) s->wpAny (model X.prog X.w) X.A (f (.int i t) (.int j u)) Q E s) :
  gO X f (vM λi j=>.bl (g i j)):=by
 intro aa s σ H x y v u Q I rx ry h;obtain ⟨i,j,rfl,rfl,q⟩:=h;obtain ⟨t,rfl⟩:=rx;obtain ⟨t',rfl⟩:=ry;exact rule i j t t' s _ _ ⟨.bl (g i j),H,I,rfl,q⟩
noncomputable def Q9 (i j:Int):Prop:=0<=j/\j<=1000000/\i.natAbs < 2 ^ 64
noncomputable def OM (i j:Int):Prop:=(-(2 ^ 64) < i/\i < 2 ^ 64)\/(-(2 ^ 64) < j/\j < 2 ^ 64)
theorem OM.ok {i j:Int}(h:OM i j):IntMulOk i j:=by
 rcases h with ⟨h1,h2⟩ | ⟨h1,h2⟩
 ·exact .of_left (intBits_le_64 h1 h2)
 ·exact .of_right (intBits_le_64 h1 h2)
theorem wL:gO X (binaryOp .Add) (vM λi j=>.int (i + j)):=UM λ_ _ _ _ _ _ _ q=>add_int q
theorem g8:gO X (binaryOp .Sub) (vM λi j=>.int (i - j)):=UM λ_ _ _ _ _ _ _ q=>sub_int q
theorem wW:gO X (binaryOp .Mult) (rI OM λi j=>.int (i * j)):=YC λ_ _ _ _ _ _ _ hc q=>mul_int q hc.ok
theorem fV:gO X (binaryOp .Mod) (rI (λ_ j=>0 < j) λi j=>.int (i % j)):=YC λi j _ _ _ _ _ hc q=>by
 have h1:(0:Int) < j:=hc;exact mod_int' (by omega) (by rw [Int.fmod_eq_emod_of_nonneg i (by omega)];exact q)
theorem kB:gO X (binaryOp .Pow) (rI Q9 λi j=>.int (i ^ j.toNat)):=YC λ_ _ _ _ _ _ _ hc q=>pow_int_small hc.1 hc.2.1 hc.2.2 q
theorem vS:gO X (binaryOp .BitXor) (vM λi j=>.int (Builtin.bitXor i j)):=UM λ_ _ _ _ _ _ _ q=>xor_int q
theorem unI {f:Value->Sem Value}{g:Int->Int}
  (rule:∀ (i:Int) (t:Tok) (s:Shared) (Q:Value->Shared->Prop) (E:Value->Shared->Prop),Q (.int (g i) s.toks) { s with toks:=s.toks + 1 }->wpAny (model X.prog X.w) X.A (f (.int i t)) Q E s) :
  UnR X f (rU λi=>.int (g i)):=by
 intro aa s σ H x v Q I rx h;obtain ⟨i,rfl,q⟩:=h;obtain ⟨t,rfl⟩:=rx;exact rule i t s _ _ ⟨.int (g i),H,I.tok _,⟨_,rfl⟩,q⟩
theorem O1:UnR X (unaryOp .USub) (rU λi=>.int (-i)):=unI λ_ _ _ _ _ q=>neg_int q
end
noncomputable def sZ:V->V->Bool
 | .cI,.cI=>true | .cI,.int _=>true | .int _,.cI=>true | .cI,.bl _=>true | .bl _,.cI=>true | .cI,.str _=>true | .str _,.cI=>true
 | .int _,.int _=>true | .bl _,.bl _=>true | .str _,.str _=>true | .OC _,.OC _=>true
 | .int _,.str _=>true | .str _,.int _=>true | .bl _,.str _=>true | .str _,.bl _=>true
 | _,_=>false
noncomputable def UD:R2:=λx y H Q=>sZ x y=true/\Q (.bl (decide (x=y))) H
noncomputable def UC:R2:=λx y H Q=>sZ x y=true/\Q (.bl (!decide (x=y))) H
theorem Nf {i j:Int}:decide (V.int i=V.int j)=(i == j):=by rw [xF];simp
theorem QM {i j:Bool}:decide (V.bl i=V.bl j)=(i == j):=by rw [xF];simp
theorem Nd {i j:Str}:decide (V.str i=V.str j)=(i == j):=by rw [xF];simp
theorem Ng {i j:Array UInt8}:decide (V.OC i=V.OC j)=(i.toList == j.toList):=by rw [xF];cases i;cases j;simp
section
variable {X:Cx}{a b c:Expr}{ta tb tc:TE}{pos:Pos}
theorem wM {aa:List (Addr×Obj)}{σ:St}{H:Hp}{s:Shared}{Q:VK}{k k':Bool}(I:Inv X aa σ H s)(q:Q (.bl k) H)(e:k=k'):EP X aa σ Q (.bool k') s:=by subst e;exact ⟨.bl k,H,I,rfl,q⟩
theorem eO:gO X (compareOp .Eq) UD:=by
 intro aa s σ H x y v u Q I rx ry h;obtain ⟨hs,q⟩:=h;cases x with
 | cI=>
  cases rx;cases y with
  | cI=>cases ry;exact PySem.EqNone.eq_none_none (wM I q (by simp))
  | bl j=>cases ry;exact PySem.EqNone.eq_none_bool (wM I q (by simp))
  | int j=>obtain ⟨t',rfl⟩:=ry;exact PySem.EqNone.eq_none_int (wM I q (by simp))
  | str j=>obtain ⟨t',rfl⟩:=ry;exact PySem.EqNone.eq_none_str (wM I q (by simp))
  | _=>exact absurd (show false=true from hs) zO
 | bl i=>
  cases rx;cases y with
  | cI=>cases ry;exact PySem.EqNone.eq_bool_none (wM I q (by simp))
  | bl j=>cases ry;exact eq_bool (wM I q QM)
  | str j=>obtain ⟨t',rfl⟩:=ry;exact PySem.EqMixed.eq_bool_str (wM I q (by simp))
  | _=>exact absurd (show false=true from hs) zO
 | int i=>
  obtain ⟨t,rfl⟩:=rx;cases y with
  | cI=>cases ry;exact PySem.EqNone.eq_int_none (wM I q (by simp))
  | int j=>obtain ⟨t',rfl⟩:=ry;exact eq_int (wM I q Nf)
  | str j=>obtain ⟨t',rfl⟩:=ry;exact PySem.EqMixed.eq_int_str (wM I q (by simp))
  | _=>exact absurd (show false=true from hs) zO
 | str i=>
  obtain ⟨t,rfl⟩:=rx;cases y with
  | cI=>cases ry;exact PySem.EqNone.eq_str_none (wM I q (by simp))
  | bl j=>cases ry;exact PySem.EqMixed.eq_str_bool (wM I q (by simp))
  | int j=>obtain ⟨t',rfl⟩:=ry;exact PySem.EqMixed.eq_str_int (wM I q (by simp))
  | str j=>obtain ⟨t',rfl⟩:=ry;exact eq_str (wM I q Nd)
  | _=>exact absurd (show false=true from hs) zO
 | OC i=>
  obtain ⟨t,rfl⟩:=rx;cases y with
  | OC j=>obtain ⟨t',rfl⟩:=ry;exact PySem.W.eq_bytes (wM I q Ng)
  | _=>exact absurd (show false=true from hs) zO
 | _=>cases y <;> exact absurd (show false=true from hs) zO
theorem nH:gO X (compareOp .NotEq) UC:=by
 intro aa s σ H x y v u Q I rx ry h;obtain ⟨hs,q⟩:=h;cases x with
 | cI=>
  cases rx;cases y with
  | cI=>cases ry;exact PySem.EqNone.ne_none_none (wM I q (by simp))
  | bl j=>cases ry;exact PySem.EqNone.ne_none_bool (wM I q (by simp))
  | int j=>obtain ⟨t',rfl⟩:=ry;exact PySem.EqNone.ne_none_int (wM I q (by simp))
  | str j=>obtain ⟨t',rfl⟩:=ry;exact PySem.EqNone.ne_none_str (wM I q (by simp))
  | _=>exact absurd (show false=true from hs) zO
 | bl i=>
  cases rx;cases y with
  | cI=>cases ry;exact PySem.EqNone.ne_bool_none (wM I q (by simp))
  | bl j=>cases ry;exact ne_bool (wM I q (congrArg not QM))
  | str j=>obtain ⟨t',rfl⟩:=ry;exact PySem.EqMixed.ne_bool_str (wM I q (by simp))
  | _=>exact absurd (show false=true from hs) zO
 | int i=>
  obtain ⟨t,rfl⟩:=rx;cases y with
  | cI=>cases ry;exact PySem.EqNone.ne_int_none (wM I q (by simp))
  | int j=>obtain ⟨t',rfl⟩:=ry;exact ne_int (wM I q (congrArg not Nf))
  | str j=>obtain ⟨t',rfl⟩:=ry;exact PySem.EqMixed.ne_int_str (wM I q (by simp))
  | _=>exact absurd (show false=true from hs) zO
 | str i=>
  obtain ⟨t,rfl⟩:=rx;cases y with
  | cI=>cases ry;exact PySem.EqNone.ne_str_none (wM I q (by simp))
  | bl j=>cases ry;exact PySem.EqMixed.ne_str_bool (wM I q (by simp))
  | int j=>obtain ⟨t',rfl⟩:=ry;exact PySem.EqMixed.ne_str_int (wM I q (by simp))
  | str j=>obtain ⟨t',rfl⟩:=ry;exact ne_str (wM I q (congrArg not Nd))
  | _=>exact absurd (show false=true from hs) zO
 | OC i=>
  obtain ⟨t,rfl⟩:=rx;cases y with
  | OC j=>obtain ⟨t',rfl⟩:=ry;exact PySem.W.ne_bytes (wM I q (congrArg not Ng))
  | _=>exact absurd (show false=true from hs) zO
 | _=>cases y <;> exact absurd (show false=true from hs) zO
theorem tO:gO X (compareOp .Lt) (vM λi j=>.bl (decide (i < j))):=Sh λ_ _ _ _ _ _ _ q=>lt_int q
theorem qa:gO X (compareOp .LtE) (vM λi j=>.bl (decide (i<=j))):=Sh λ_ _ _ _ _ _ _ q=>le_int q
theorem nI:gO X (compareOp .Gt) (vM λi j=>.bl (decide (j < i))):=Sh λ_ _ _ _ _ _ _ q=>gt_int q
theorem W0:gO X (compareOp .GtE) (vM λi j=>.bl (decide (j<=i))):=Sh λ_ _ _ _ _ _ _ q=>ge_int q
theorem aK (b:Expr){op:CmpOp}(h:op≠.In:=by decide)(h2:op≠.NotIn:=by decide):behindInMarks op b=false:=by
 have e1:(op == CmpOp.In)=false:=by cases op <;> first | rfl | exact absurd rfl h
 have e2:(op == CmpOp.NotIn)=false:=by cases op <;> first | rfl | exact absurd rfl h2
 cases b <;> simp [behindInMarks,e1,e2]
theorem rq {op:CmpOp}{r:R2}(ho:gO X (compareOp op) r)(ha:PE X a ta)(hb:PE X b tb)(hm:behindInMarks op b=false):PE X (.Compare a [op] [b] pos) (Ra r ta tb):=by intro aa s σ H Q I h;exact wpAny_Compare1 (VR ha hb I h λv u s2 x y H2 I2 rx ry q=>ho aa s2 σ H2 x y v u Q I2 rx ry q) hm
noncomputable def kX (t:TE):TT:=fun σ H Q=>t σ H λx H'=>∃ k,x=.bl k/\Q k H'
theorem wA {op:CmpOp}{r:R2}(ho:gO X (compareOp op) r)(ha:PE X a ta)(hb:PE X b tb)(hm:behindInMarks op b=false):PT X (.Compare a [op] [b] pos) (kX (Ra r ta tb)):=by
 intro aa s σ H Q I h;refine wpAny_isTrue_Compare1 (bu (ha aa s σ H _ I h) λv s1 ⟨x,H1,I1,r1,q1⟩=>bu (hb aa s1 σ H1 _ I1 q1) λu s2 ⟨y,H2,I2,r2,q2⟩=>
  bu (ho aa s2 σ H2 x y v u _ I2 r1 r2 q2) λc s3 ⟨z,H3,I3,r3,k,e,q3⟩=>?_) hm
 subst e;cases r3;exact wpAny_truthy_bool ⟨H3,I3,q3⟩
noncomputable def gR (r r':R2)(ta tb tc:TE):TE:=fun σ H Q=>ta σ H λx H1=>tb σ H1 λy H2=>r x y H2 λz H3=>∃ k,z=.bl k /\
 (if k=true then tc σ H3 λw' H4=>r' y w' H4 Q else Q (.bl false) H3)
theorem PV {op UN:CmpOp}{r r':R2}(ho:gO X (compareOp op) r)(pD:gO X (compareOp UN) r')(ha:PE X a ta)(hb:PE X b tb)(hc:PE X c tc)
  (hm:lastMarks [op,UN] [b,c]=false:=by with_unfolding_all rfl):PE X (.Compare a [op,UN] [b,c] pos) (gR r r' ta tb tc):=by
 intro aa s σ H Q I h;refine Compare_chain (bu (ha aa s σ H _ I h) λv s1 ⟨x,H1,I1,r1,q1⟩=>chain_link (bu (hb aa s1 σ H1 _ I1 q1) λu s2 ⟨y,H2,I2,r2,q2⟩=>
  bu (ho aa s2 σ H2 x y v u _ I2 r1 r2 q2) λd s3 ⟨z,H3,I3,r3,k,e,q3⟩=>?_)) hm
 subst e;cases r3;refine wpAny_truthy_bool ?_;cases k with
 | false=>exact ite_ff ⟨.bl false,H3,I3,rfl,q3⟩
 | true=>exact ite_tt (chain_last (bu (hc aa s3 σ H3 _ I3 q3) λw' s4 ⟨z',H4,I4,r4,q4⟩=>pD aa s4 σ H4 y z' u w' Q I4 r2 r4 q4))
theorem PF {op UN:CmpOp}{r r':R2}(ho:gO X (compareOp op) r)(pD:gO X (compareOp UN) r')(ha:PE X a ta)(hb:PE X b tb)(hc:PE X c tc)
  (hm:lastMarks [op,UN] [b,c]=false:=by with_unfolding_all rfl):PT X (.Compare a [op,UN] [b,c] pos) (kX (gR r r' ta tb tc)):=by
 intro aa s σ H Q I h;refine isTrue_chain (bu (ha aa s σ H _ I h) λv s1 ⟨x,H1,I1,r1,q1⟩=>test_link (bu (hb aa s1 σ H1 _ I1 q1) λu s2 ⟨y,H2,I2,r2,q2⟩=>
  bu (ho aa s2 σ H2 x y v u _ I2 r1 r2 q2) λd s3 ⟨z,H3,I3,r3,k,e,q3⟩=>?_)) hm
 subst e;cases r3;refine wpAny_truthy_bool ?_;cases k with
 | false=>
  obtain ⟨k',e',q'⟩:=q3;cases e';exact ite_ff ⟨H3,I3,q'⟩
 | true=>
  refine ite_tt (test_last (bu (hc aa s3 σ H3 _ I3 q3) λw' s4 ⟨z',H4,I4,r4,q4⟩=>bu (pD aa s4 σ H4 y z' u w' _ I4 r2 r4 q4) λd' s5 ⟨z2,H5,I5,r5,k2,e2,q5⟩=>?_));subst e2;cases r5;exact wpAny_truthy_bool ⟨H5,I5,q5⟩
theorem nR:(sizeLine:Nat) < 2 ^ 63:=by rw [sizeLine_eq];decide
theorem vals1 {x:V}{us:List Value}(r:Vals [x] us):∃ u,us=[u]/\RelV x u:=by
 cases r with
 | cons r1 r2=>cases r2;exact ⟨_,rfl,r1⟩
theorem vals2 {x y:V}{us:List Value}(r:Vals [x,y] us):∃ u w',us=[u,w']/\RelV x u/\RelV y w':=by
 cases r with
 | cons r1 r2=>
  cases r2 with
  | cons r3 r4=>cases r4;exact ⟨_,_,rfl,r1,r3⟩
theorem fN (hc:X.calm=true):dZ X (.builtin "max") (λxs H Q=>∃ i j,xs=[.int i,.int j]/\Q (.int (if j > i then j else i)) H):=by
 intro aa s σ H xs us Q I r h;obtain ⟨i,j,rfl,q⟩:=h;obtain ⟨u,w',rfl,⟨t,rfl⟩,⟨t',rfl⟩⟩:=vals2 r;refine max_two_ints (I.ok.hd hc) λh' tk k=>⟨_,H,I.kept k,?_,q⟩;by_cases hj:j > i
 ·rw [if_pos hj,if_pos hj];exact ⟨_,rfl⟩
 ·rw [if_neg hj,if_neg hj];exact ⟨_,rfl⟩
theorem fM (hc:X.calm=true):dZ X (.builtin "min") (λxs H Q=>∃ i j,xs=[.int i,.int j]/\Q (.int (if j < i then j else i)) H):=by
 intro aa s σ H xs us Q I r h;obtain ⟨i,j,rfl,q⟩:=h;obtain ⟨u,w',rfl,⟨t,rfl⟩,⟨t',rfl⟩⟩:=vals2 r;refine min_two_ints (I.ok.hd hc) λh' tk k=>⟨_,H,I.kept k,?_,q⟩;by_cases hj:j < i
 ·rw [if_pos hj,if_pos hj];exact ⟨_,rfl⟩
 ·rw [if_neg hj,if_neg hj];exact ⟨_,rfl⟩
end
structure Ms (h:Heap) (x dx C:Addr) (mA:Str->Option Value):Prop where
 obj:h.get? x=some (yb C dx)
 ns:h.Ns1 dx mA
 ne:dx≠x
theorem Oa {h:Heap}{dx:Addr}{mA:Str->Option Value}(n:h.Ns1 dx mA):∃ od,h.get? dx=some od/\∀ name,PySem.W.lookIn name od=some (mA name):=by
 obtain ⟨o,es,ep,ho,hd,hk,_,hm⟩:=n;refine ⟨o,ho,λname=>?_⟩;have e:=hm name;unfold nsFind findBy at e;rw [<-Array.find?_toList] at e;unfold PySem.W.lookIn;rw [hd];dsimp only;split
 ·rename_i y q;rw [q] at e;exact congrArg some e
 ·rename_i q;rw [q] at e;have a:es.toList.any (·.refKey)=false:=by
   rw [List.any_eq_false];intro y hy;obtain ⟨z,t,aap⟩:=hk y (Array.mem_toList_iff.mp hy);simp [DictEntry.refKey,aap]
  have a':¬ es.toList.any (·.refKey)=true:=by rw [a];exact zO
  rw [if_neg a'];exact congrArg some e
theorem Ms.look {h:Heap}{x dx C:Addr}{mA:Str->Option Value}(I:Ms h x dx C mA):∃ od,PySem.W.InstAt h x (yb C dx) C (some od)/\∀ name,PySem.W.lookIn name od=some (mA name):=
 let ⟨od,ho,hl⟩:=Oa I.ns
 ⟨od,⟨I.obj,rfl,rfl,ho⟩,hl⟩
section
variable {prog:Program}{w:World}{A:Around}{E:Value->Shared->Prop}{s:Shared}{K:PySem.W.Frag}{x dx C f:Addr}{mA:Str->Option Value}{name:Str}{v:Value}
theorem get_map {expr:Bool}{Q:Value->Shared->Prop}(X:K.In s.heap)(I:Ms s.heap x dx C mA)(hg:xM K C name=true)(hh:PySem.W.hasDictIn K C=true)
  (ha:zW K (.ref C) name=some none) (hv:mA name=some v) (Tu:PySem.W.handedIn v=true) (h:Q v { s with toks:=s.toks + 1 }) :
  wpAny (model prog w) A (getAttr (.ref x) name expr) Q E s:=by
 obtain ⟨od,J,hl⟩:=I.look;exact PySem.W.get_value X J (PySem.W.plainGet_of hg).1 (PySem.W.findObj_own hh ha rfl (by rw [hl,hv])) Tu h
theorem QC {pl:Sem Bool}{Q:Value×List Value->Shared->Prop}(X:K.In s.heap)(I:Ms s.heap x dx C mA)(hg:xM K C name=true)
  (hf:zW K (.ref C) name=some (some (.ref f))) (ht:ye K (.ref f)=true) (hv:mA name=none) (h:Q (.ref f,[.ref x]) s) :
  wpAny (model prog w) A (getMethod (.ref x) name pl) Q E s:=by
 obtain ⟨od,J,hl⟩:=I.look;exact PySem.W.method_fn X J (PySem.W.plainGet_of hg).1 (PySem.W.plainGet_of hg).2 hf (beq_iff_eq.mp ht) (by show (PySem.W.lookIn name od).map (·.isSome)=some false;rw [hl,hv];rfl) h
theorem RP {ns:List Str}{Q:Unit->Shared->Prop}(X:K.In s.heap)(I:Ms s.heap x dx C mA)
  (hs:zW K (.ref C) "__setattr__" = some (some (.builtin "object.__setattr__"))) (hp:PySem.W.plainOver K C=true) (ht:PySem.W.takerIn K C name=some none) (hh:PySem.W.hasDictIn K C=true)
  (hw:PySem.Within mA ns) (hsz:ns.length<=sizeLine)
  (h:∀ h',Ms h' x dx C (λy=>if y=name then some v else mA y)->Heap.SameBut dx s.heap h'->Q () { s with heap:=h',toks:=s.toks + 2 }) :
  wpAny (model prog w) A (setAttr (.ref x) name v) Q E s:=by
 obtain ⟨od,J,hl⟩:=I.look;refine PySem.W.set_plain X J hs (PySem.W.osa_open (s:={ s with toks:=s.toks + 1 }) (r:=none) X J hp ht λb=>?_);obtain ⟨cd,hc,Oi⟩:=PySem.W.any_some hh;have hx:s.heap.get? x=some ⟨.ref C,some dx,.plain,#[]⟩:=I.obj;refine wpAny_bind (wpAny_pure (wpAny_bind (wpAny_bind (wpAny_loadPart hx (wpAny_bind (PySem.W.Looks.here (s:={ s with toks:=s.toks + 1 }) (PySem.W.looks_clsIn X hc) ?_))))));rw [Oi];refine wpAny_pure (a:=some dx) (wpAny_bind (wpAny_pure (wpAny_bind ?_)));refine wpAny_nsSet1 (s:={ s with toks:=s.toks + 1 }) I.ns λh' XC M7=>?_;obtain ⟨oD,esD,epD,hoD,hdD,hcD⟩:=XC.count (PySem.Within.cons name v hw);refine wpAny_bind (wpAny_lookBehind hoD (by rw [hdD];exact pastItsLine_dict (yB hcD (by rw [zX];omega))) ?_);exact wpAny_pure (h _ ⟨(M7.2 _ (Ne.symm I.ne)).trans I.obj,XC,I.ne⟩ M7)
theorem Qc {R:Result->Shared->Prop}{vs:List Value}{kw:List (Str×Value)}(X:K.In s.heap)(hm:PySem.W.makesIn K C=true)
  (hi:zW K (.ref C) "__init__" = some (some (.ref f))) (hf:PySem.W.typeIn K (.ref f)=some (.type "function"))
  (h:codeAny (model prog w) (A.under (.builtin "type.__call__" ⟨.ref C::vs,kw⟩)) (.call (.ref f) ⟨.ref (s.heap.objs.size + 1)::vs,kw⟩) (PySem.W.InitBack (s.heap.objs.size + 1) R)
   { s with heap:=(s.heap.push yN).push (yb C s.heap.objs.size) }) :
  codeAny (model prog w) A (.call (.ref C) ⟨vs,kw⟩) R s:=by
 obtain ⟨hh,g,d,t,os⟩:=s;exact PySem.W.make_core (PySem.W.makes_of X hm) (PySem.W.looks_findIn X hi) (λself=>PySem.W.bind_fn X self hf) (.inl rfl) h
end
noncomputable def eZ (f:Str)(v:V):List (Str×V)->List (Str×V)
 | []=>[(f,v)]
 | (g,x)::r=>if g=f then (g,v)::r else (g,x)::eZ f v r
theorem lz (f g:Str)(v:V):∀ fs:List (Str×V),(eZ f v fs).lookup g=if g=f then some v else fs.lookup g
 | []=>by
  show xB g [(f,v)]=_;by_cases h:g=f
  ·have hb:(g == f)=true:=beq_iff_eq.mpr h;simp only [xB,hb,if_pos h]
  ·have hb:(g == f)=false:=beq_eq_false_iff_ne.mpr h;simp only [xB,hb,if_neg h]
 | (k,x)::r=>by
  have ih:=lz f g v r;rw [show eZ f v ((k,x)::r)=(if k=f then (k,v)::r else (k,x)::eZ f v r) from rfl];by_cases hk:k=f
  ·rw [if_pos hk];by_cases h:g=k
   ·have hb:(g == k)=true:=beq_iff_eq.mpr h;simp only [xB,hb,if_pos (h.trans hk)]
   ·have hb:(g == k)=false:=beq_eq_false_iff_ne.mpr h;simp only [xB,hb,if_neg (λe:g=f=>h (e.trans hk.symm))]
  ·rw [if_neg hk];by_cases h:g=k
   ·have hb:(g == k)=true:=beq_iff_eq.mpr h;simp only [xB,hb,if_neg (λe:g=f=>hk (h.symm.trans e))]
   ·have hb:(g == k)=false:=beq_eq_false_iff_ne.mpr h;simp only [xB,hb];exact ih
theorem kD (f:Str)(v:V):∀ fs:List (Str×V),f∈(eZ f v fs).map (·.1)/\∀ g,g∈fs.map (·.1)->g∈(eZ f v fs).map (·.1)
 | []=>⟨by simp [eZ],λg h=>by simp at h⟩
 | (k,x)::r=>by
  obtain ⟨i1,i2⟩:=kD f v r;rw [show eZ f v ((k,x)::r)=(if k=f then (k,v)::r else (k,x)::eZ f v r) from rfl];by_cases hk:k=f
  ·rw [if_pos hk];subst hk;exact ⟨by simp,λg h=>by simpa using h⟩
  ·rw [if_neg hk];refine ⟨?_,λg h=>?_⟩
   ·rw [zo];exact zc _ i1
   ·rw [zo] at h ⊢;rcases zH.mp h with e | e
    ·exact zH.mpr (.inl e)
    ·exact zc _ (i2 g e)
theorem lB (f:Str)(v:V):∀ fs:List (Str×V),(eZ f v fs).length<=fs.length + 1
 | []=>by simp [eZ]
 | (k,x)::r=>by
  have ih:=lB f v r;rw [show eZ f v ((k,x)::r)=(if k=f then (k,v)::r else (k,x)::eZ f v r) from rfl];by_cases hk:k=f
  ·rw [if_pos hk,zX,zX];omega
  ·rw [if_neg hk,zX,zX];omega
theorem iT.some_of {v:V}{o:Option Value}(r:iT (some v) o):∃ u,o=some u/\RelV v u:=by
 cases o with
 | none=>exact (show False from r).elim
 | some u=>exact ⟨u,rfl,r⟩
theorem iT.none_of {o:Option Value}(r:iT none o):o=none:=by
 cases o with
 | none=>rfl
 | some u=>exact (show False from r).elim
theorem Ol {v:V}{u:Value}(r:RelV v u):PySem.W.handedIn u=true:=by
 cases v with
 | cI=>cases (show u=Value.none from r);rfl
 | bl b=>cases (show u=Value.bool b from r);rfl
 | int i=>obtain ⟨t,e⟩:=(show ∃ t,u=Value.int i t from r);cases e;rfl
 | str x=>obtain ⟨t,e⟩:=(show ∃ t,u=Value.str x t from r);cases e;rfl
 | OC b=>obtain ⟨t,e⟩:=(show ∃ t,u=Value.bytes b t from r);cases e;rfl
 | TU b=>obtain ⟨t,e⟩:=(show ∃ t,u=Value.float b t from r);cases e;rfl
 | ref a=>cases (show u=Value.ref a from r);rfl
 | ty n=>cases (show u=Value.type n from r);rfl
section
variable {P:Program}{w:World}{H H':Hp}{h h':Heap}{a C dx:Addr}{fs Wk:List (Str×V)}
theorem mh (aY:gP P w H h)(e:H a=some (.ins C dx fs)):∃ mA,Ms h a dx C mA/\(∀ f,iT (fs.lookup f) (mA f))/\PySem.Within mA (fs.map (·.1))/\fs.length<=1000/\H dx=some (.own a):=by obtain ⟨d,z,ne,ob,mA,n,r,q⟩:=(show bK P w H h a (.ins C dx fs) from aY a _ e);exact ⟨mA,⟨ob,n,ne⟩,r,q,z,d⟩
end
structure Q8 (K:PySem.W.Frag) (C:Addr):Prop where
 pg:xM K C Str.empty=true
 hd:PySem.W.hasDictIn K C=true
 po:PySem.W.plainOver K C=true
 sa:zW K (.ref C) "__setattr__" = some (some (.builtin "object.__setattr__"))
theorem Q8.get {K:PySem.W.Frag}{C:Addr}(c:Q8 K C)(f:Str):xM K C f=true:=c.pg
noncomputable def dU (K:PySem.W.Frag)(C:Addr)(f:Str):Prop:=zW K (.ref C) f=some none
theorem dU.Wy {K:PySem.W.Frag}{C:Addr}{f:Str}(n:dU K C f):PySem.W.takerIn K C f=some none:=by unfold PySem.W.takerIn;rw [show zW K (.ref C) f=some none from n];rfl
structure Meth (K:PySem.W.Frag) (C:Addr) (m:Str) (f:Addr):Prop where
 at_:zW K (.ref C) m=some (some (.ref f))
 fn:ye K (.ref f)=true
 kp:zG K (.ref f)=true
section
variable {X:Cx}{aa:List (Addr×Obj)}{σ:St}{H:Hp}{s:Shared}{a C dx:Addr}{fs:List (Str×V)}{f:Str}{v:V}{A:Around}{E:Value->Shared->Prop}
theorem oh {b:Bool}{Q:Value->Shared->Prop}(I:Inv X aa σ H s)(e:H a=some (.ins C dx fs))(c:Q8 X.K C)(n:dU X.K C f)(l:fs.lookup f=some v)
  (h:∀ u s',Inv X aa σ H s'->RelV v u->Q u s'):wpAny (model X.prog X.w) A (getAttr (.ref a) f b) Q E s:=by
 obtain ⟨mA,O,r,_,_,_⟩:=mh I.aY e;obtain ⟨u,hu,ru⟩:=iT.some_of (v:=v) (o:=mA f) (by rw [<-l];exact r f);exact get_map I.jM O (c.get f) c.hd n hu (Ol ru) (h u _ (I.tok _) ru)
theorem Ma {m:Str}{g:Addr}{pl:Sem Bool}{Q:Value×List Value->Shared->Prop}(I:Inv X aa σ H s)(e:H a=some (.ins C dx fs))(c:Q8 X.K C)(k:Meth X.K C m g)(l:fs.lookup m=none)
  (h:Q (.ref g,[.ref a]) s):wpAny (model X.prog X.w) A (getMethod (.ref a) m pl) Q E s:=by
 obtain ⟨mA,O,r,_,_,_⟩:=mh I.aY e;have hn:mA m=none:=iT.none_of (by rw [<-l];exact r m);exact QC I.jM O (c.get m) k.at_ k.fn hn h
theorem mY {y:V}{u:Value}{Q:Unit->Shared->Prop}(I:Inv X aa σ H s)(e:H a=some (.ins C dx fs))(c:Q8 X.K C)(n:dU X.K C f)(hl:fs.length < 1000)(ry:RelV y u)
  (h:∀ s',Inv X aa σ (upd H a (.ins C dx (eZ f y fs))) s'->Q () s'):wpAny (model X.prog X.w) A (setAttr (.ref a) f u) Q E s:=by
 obtain ⟨mA,O,r,wi,_,ho⟩:=mh I.aY e;have hz:(fs.map (·.1)).length<=sizeLine:=by rw [zA,sizeLine_eq];omega
 refine RP I.jM O c.sa c.po n.Wy c.hd wi hz λh' O' sb=>h _ ?_;have hd:∃ o,h'.get? dx=some o:=let ⟨o,_,_,e',_⟩:=O'.ns;⟨o,e'⟩;refine I.write (x:=a) (e:=dx) (by rw [e];exact True.intro) (.inr ho) (λb q hb z=>(sb.2 b hb).trans z) hd ?_;refine ⟨by rw [xj O.ne];exact ho,?_,O.ne,O'.obj,_,O'.ns,λg=>?_,λg hg=>?_⟩
 ·have:=lB f y fs;omega
 ·show iT ((eZ f y fs).lookup g) (if g=f then some u else mA g);rw [lz];by_cases q:g=f
  ·rw [if_pos q,if_pos q];exact ry
  ·rw [if_neg q,if_neg q];exact r g
 ·by_cases q:g=f
  ·rw [q];exact (kD f y fs).1
  ·refine (kD f y fs).2 g (wi g λz=>hg ?_);show (if g=f then some u else mA g)=none;rw [if_neg q];exact z
theorem Inv.made (I:Inv X aa σ H s):Inv X aa σ (upd (upd H s.heap.objs.size (.own (s.heap.objs.size + 1))) (s.heap.objs.size + 1) (.ins C s.heap.objs.size []))
  { s with heap:=(s.heap.push yN).push (yb C s.heap.objs.size) }:=by
 have e1:(s.heap.push yN).get? s.heap.objs.size=some yN:=Heap.get?_push_size s.heap rfl;have e2:((s.heap.push yN).push (yb C s.heap.objs.size)).get? (s.heap.objs.size + 1)=some (yb C s.heap.objs.size):=by
  have:=Heap.get?_push_size (s.heap.push yN) (o:=yb C s.heap.objs.size) rfl;rwa [Heap.size_push] at this
 have e3:(s.heap.push yN).Ns s.heap.objs.size (λ_=>none):=⟨yN,#[],_,e1,rfl,(λe he=>absurd he (by simp)),λ_=>rfl⟩;have I1:=I.laid (a:=s.heap.objs.size) (o:=.own (s.heap.objs.size + 1)) (h':=s.heap.push yN) (t':=s.toks) (λb u q=>Heap.get?_push_of_some _ q) (zD _) ⟨_,e1⟩;refine I1.laid (a:=s.heap.objs.size + 1) (o:=.ins C s.heap.objs.size []) (t':=s.toks) (λb u q=>Heap.get?_push_of_some _ q) (Nat.le_of_eq (Heap.size_push _ _)) ?_;have ne:s.heap.objs.size≠s.heap.objs.size + 1:=zV (xN _);refine ⟨by rw [xj ne,xb],zb _,ne,e2,λ_=>none,(Heap.Ns1.of_empty e3).at λo q=>Heap.get?_push_of_some _ q,λ_=>True.intro,λy hy=>absurd rfl hy⟩
theorem S0 {prog:Program}{w:World}{env:Env}{e:Expr}{f:Str}{pos:Pos}{s:Shared}{Q:Value->Shared->Prop}(hb:attributeBase e f env (eval e env)=eval e env)
  (h:wpAny (model prog w) A (eval e env) (λo bG=>wpAny (model prog w) A (getAttr o f true) Q E bG) E s):wpAny (model prog w) A (eval (.Attribute e f pos) env) Q E s:=
 Attribute_any_ h (by rw [arm_eval_Attribute,hb])
end
noncomputable def WD (K:PySem.W.Frag)(ta:TE)(f:Str):TE:=fun σ H Q=>ta σ H λx H1=>∃ a C dx fs v,x=.ref a/\H1 a=some (.ins C dx fs)/\Q8 K C/\dU K C f/\fs.lookup f=some v/\Q v H1
noncomputable def ZA (K:PySem.W.Frag)(ta tv:TE)(f:Str):TS:=λD σ H=>tv σ H λy H1=>ta σ H1 λx H2=>∃ a C dx fs,x=.ref a/\H2 a=some (.ins C dx fs)/\Q8 K C/\dU K C f/\fs.length < 1000 /\
 D.nx σ (upd H2 a (.ins C dx (eZ f y fs)))
noncomputable def aaY (X:Cx)(op:Operator)(rd:V->V->Hp->VK->Prop):Prop:=
 ∀ (aa:List (Addr×Obj)) (s:Shared) (σ:St) (H:Hp) (x y:V) (u v:Value) (Q:VK),Inv X aa σ H s->RelV x u->RelV y v->rd x y H Q->wpAny (model X.prog X.w) X.A (inplaceOp op u v) (EP X aa σ Q) X.xe s
noncomputable def RQ (K:PySem.W.Frag)(ta tv:TE)(rd:V->V->Hp->VK->Prop)(f:Str):TS:=λD σ H=>ta σ H λx H1=>∃ a C dx fs v,x=.ref a/\H1 a=some (.ins C dx fs)/\Q8 K C/\dU K C f/\fs.lookup f=some v /\
 tv σ H1 λy H2=>rd v y H2 λz H3=>∃ dx' Wk,H3 a=some (.ins C dx' Wk)/\Wk.length < 1000/\D.nx σ (upd H3 a (.ins C dx' (eZ f z Wk)))
section
variable {X:Cx}{o e value:Expr}{f:Str}{pos pos' Rx:Pos}{ta tv:TE}
theorem e8 (he:PE X e ta)(hb:attributeBase e f X.env (eval e X.env)=eval e X.env):PE X (.Attribute e f pos) (WD X.K ta f):=by intro aa s σ H Q I h;refine S0 hb (bu (he aa s σ H _ I h) λu s1 ⟨x,H1,I1,rx,a,C,dx,fs,v,ex,ea,c,n,l,q⟩=>?_);subst ex;obtain rfl:u=Value.ref a:=rx;exact oh I1 ea c n l λu' s2 I2 ru=>⟨v,H1,I2,ru,q⟩
theorem nC (ha:PE X o ta)(hv:PE X value tv)(hs:swapsWith value (some (.Attribute o f pos')) pos.line X.env=pure false):PS X (.Assign [.Attribute o f pos'] value pos) (ZA X.K ta tv f):=by intro aa s σ H D I h;refine plainObj_wpAny_Assign_Attribute (bu (hv aa s σ H _ I h) λu s1 ⟨y,H1,I1,ry,q⟩=>bu (ha aa s1 σ H1 _ I1 q) λov s2 ⟨x,H2,I2,rx,a,C,dx,fs,ex,ea,c,n,l,q2⟩=>?_) hs;subst ex;obtain rfl:ov=Value.ref a:=rx;exact mY I2 ea c n l ry λs3 I3=>⟨σ,_,I3,q2⟩
theorem pY {op:Operator}{rd:V->V->Hp->VK->Prop}(ha:PE X o ta)(hv:PE X value tv)(hop:aaY X op rd):PS X (.AugAssign (.Attribute o f Rx) op value pos) (RQ X.K ta tv rd f):=by intro aa s σ H D I h;refine wpAny_AugAssign_AttributeAny (bu (ha aa s σ H _ I h) λov s1 ⟨x,H1,I1,rx,a,C,dx,fs,v,ex,ea,c,n,l,q⟩=>?_);subst ex;obtain rfl:ov=Value.ref a:=rx;refine oh I1 ea c n l λu s2 I2 ru=>bu (hv aa s2 σ H1 _ I2 q) λw3 s3 ⟨y,H2,I3,ry,q3⟩=>bu (hop aa s3 σ H2 v y u w3 _ I3 ru ry q3) λw4 s4 ⟨z,H3,I4,rz,dx',Wk,ea',l',q4⟩=>?_;exact mY I4 ea' c n l' rz λs5 I5=>⟨σ,_,I5,q4⟩
end
section
variable {X:Cx}{aa:List (Addr×Obj)}{σ:St}{H:Hp}{s:Shared}{A:Around}{E:Value->Shared->Prop}{Q:Value->Shared->Prop}{c:Value}{b:Bool}
inductive kT (K:PySem.W.Frag) (H:Hp):V->Value->Prop where
 | cI:kT K H .cI (.type "NoneType")
 | bl (x:Bool):kT K H (.bl x) (.type "bool")
 | int (i:Int):kT K H (.int i) (.type "int")
 | str (x:Str):kT K H (.str x) (.type "str")
 | TU (x:UInt64):kT K H (.TU x) (.type "float")
 | lst {a:Addr}{xs:List V} (e:H a=some (.lst xs)):kT K H (.ref a) (.type "list")
 | oW {a:Addr}{o:Obj}{xs:List V} (e:H a=some (.oW o (.lst xs))):kT K H (.ref a) (.type "list")
 | tup {a:Addr}{xs:List V} (e:H a=some (.tup xs)):kT K H (.ref a) (.type "tuple")
 | dK {a:Addr}{aF:List (Key×V)} (e:H a=some (.dK aF)):kT K H (.ref a) (.type "dict")
 | dT {a:Addr}{aF:List (List Key×V)} (e:H a=some (.dT aF)):kT K H (.ref a) (.type "dict")
 | ins {a C dx:Addr}{fs:List (Str×V)} (e:H a=some (.ins C dx fs)) (cl:Q8 K C) (ha:zW K (.ref C) "__class__" = some (some (.builtin "object.__class__")))
   (hn:PySem.W.specialIn K (.builtin "object.__class__") "__get__" = some (some (.builtin "getset_descriptor.__get__"))) (YN:PySem.W.takesIn K (.builtin "object.__class__")=some true)
   (hm:xZ K C (.type "object")=some true):kT K H (.ref a) (.ref C)
theorem Og {x:V}{u t:Value}(I:Inv X aa σ H s)(rx:RelV x u)(ty:kT X.K H x t)(e:PySem.W.kitOne X.K t c=some b)(h:∀ tk,Q (.bool b) { s with toks:=tk }) :
  wpAny (model X.prog X.w) A (call (.builtin "isinstance") [u,c]) Q E s:=by
 cases ty with
 | cI=>cases (show u=Value.none from rx);exact yH PySem.W.kitx_none I.jM True.intro e (λz=>nomatch z) h
 | bl y=>cases (show u=Value.bool y from rx);exact yH PySem.W.kitx_bool I.jM True.intro e (λz=>nomatch z) h
 | int i=>obtain ⟨t,q⟩:=(show ∃ t,u=Value.int i t from rx);cases q;exact yH PySem.W.kitx_int I.jM True.intro e (λz=>nomatch z) h
 | str y=>obtain ⟨t,q⟩:=(show ∃ t,u=Value.str y t from rx);cases q;exact yH PySem.W.kitx_str I.jM True.intro e (λz=>nomatch z) h
 | TU y=>obtain ⟨t,q⟩:=(show ∃ t,u=Value.float y t from rx);cases q;exact yH PySem.W.kitx_float I.jM True.intro e (λz=>nomatch z) h
 | @lst a xs ea=>
  cases (show u=Value.ref a from rx);obtain ⟨_,_,n,_,h1⟩:=(show bK X.prog X.w H s.heap a (.lst xs) from I.aY a _ ea);exact yH PySem.W.kitx_list I.jM ⟨_,h1,rfl⟩ e (λz=>nomatch z) h
 | @oW a ob xs ea=>
  cases (show u=Value.ref a from rx);obtain ⟨_,_,_,n,_,h1⟩:=(show bK X.prog X.w H s.heap a (.oW ob (.lst xs)) from I.aY a _ ea);exact yH PySem.W.kitx_list I.jM ⟨_,h1,rfl⟩ e (λz=>nomatch z) h
 | @tup a xs ea=>
  cases (show u=Value.ref a from rx);obtain ⟨_,_,_,p⟩:=(show bK X.prog X.w H s.heap a (.tup xs) from I.aY a _ ea);obtain ⟨o,h1,h2,_⟩:=p;exact yH PySem.W.kitx_tuple I.jM ⟨o,h1,h2⟩ e (λz=>nomatch z) h
 | @dK a aF ea=>
  cases (show u=Value.ref a from rx);obtain ⟨_,_,vs,_,p⟩:=(show bK X.prog X.w H s.heap a (.dK aF) from I.aY a _ ea);obtain ⟨o,es,ep,h1,h2,_⟩:=p;exact yH PySem.W.kitx_dict I.jM ⟨o,h1,h2.1⟩ e (λz=>nomatch z) h
 | @dT a aF ea=>
  cases (show u=Value.ref a from rx);obtain ⟨_,_,xs,_,o,es,ep,h1,h2,_⟩:=(show bK X.prog X.w H s.heap a (.dT aF) from I.aY a _ ea);exact yH PySem.W.kitx_dict I.jM ⟨o,h1,h2.1⟩ e (λz=>nomatch z) h
 | @ins a C dx fs ea cl ha hn YN hm=>
  cases (show u=Value.ref a from rx);obtain ⟨mA,O,_⟩:=mh I.aY ea;obtain ⟨od,J,_⟩:=O.look;exact yH (PySem.W.kitx_own (cl.get _) cl.hd ha hn YN hm) I.jM J e (λz=>nomatch z) h
end
structure cJ (k:Nat) (A:Around):Prop where
 hd:A.handled=none
 dp:A.depth + 3 * k + 5 < recursionLimit
 un:A.units + 16 * k + 200 < cLine
theorem cJ.mono {j k:Nat}{A:Around}(r:cJ k A)(h:j<=k):cJ j A:=⟨r.hd,by have:=r.dp;omega,by have:=r.un;omega⟩
theorem cJ.deeper {k:Nat}{A:Around}(r:cJ (k + 1) A)(env:Env):cJ k (A.deeper env):=
 ⟨r.hd,by have:=r.dp;show A.depth + 1 + 3 * k + 5 < _;omega,by have:=r.un;show A.units + 3 + 16 * k + 200 < _;omega⟩
theorem cJ.in1 {k:Nat}{A:Around}(r:cJ (k + 1) A):cJ k A.in1:=
 ⟨r.hd,by have:=r.dp;show A.depth + 3 * k + 5 < _;omega,by have:=r.un;show A.units + 1 + 16 * k + 200 < _;omega⟩
theorem vY {A:Around}{C:Addr}{us:List Value}{kw:List (Str×Value)}:(A.under (.builtin "type.__call__" ⟨.ref C::us,kw⟩)).depth=A.depth + 1:=by first | rfl | simp [Around.under,Code.weight,Code.isCreation,Code.isGuard,Code.isCaller,Code.frames,Code.isFrame,guardIds]
theorem vX {A:Around}{C:Addr}{us:List Value}{kw:List (Str×Value)}:(A.under (.builtin "type.__call__" ⟨.ref C::us,kw⟩)).units=A.units + 1:=by first | rfl | simp [Around.under,Code.cUnits,Code.frames,Code.isFrame]
theorem cJ.make {k:Nat}{A:Around}(r:cJ (k + 1) A)(C:Addr)(us:List Value)(kw:List (Str×Value)):cJ k (A.under (.builtin "type.__call__" ⟨.ref C::us,kw⟩)):=
 ⟨r.hd,by have:=r.dp;rw [vY];omega,by have:=r.un;rw [vX];omega⟩
theorem cJ.depth {k:Nat}{A:Around}(r:cJ k A):A.depth < recursionLimit:=by have:=r.dp;omega
theorem cJ.units {k:Nat}{A:Around}(r:cJ k A):A.units + 64 < cLine:=by have:=r.un;omega
noncomputable def oX:TA:=λ_ H Q=>Q [] H
noncomputable def jw (ta:TE)(tr:TA):TA:=fun σ H Q=>ta σ H λx H1=>tr σ H1 λxs H2=>Q (x::xs) H2
section
variable {X:Cx}{e:Expr}{es:List Expr}{te:TE}{t:TA}{pos:Pos}
theorem wb:PA X [] oX:=λ_ _ _ _ H Q I h=>Calls.spliced_nil ⟨[],H,I,.nil,h⟩
theorem Sf (ha:PE X e te)(hr:PA X es t)(hs:starEach (e::es) X.env=(false,eval e X.env)::starEach es X.env:=by rfl):PA X (e::es) (jw te t):=by intro pos aa s σ H Q I h;rw [hs];show wpAny _ _ (spliced ((false,eval e X.env)::backTo pos (starEach es X.env))) _ _ s;refine Calls.spliced_cons (bu (ha aa s σ H _ I h) λu s1 ⟨x,H1,I1,r1,q1⟩=>?_);exact bu (hr pos aa s1 σ H1 _ I1 q1) λus s2 ⟨xs,H2,I2,r2,q2⟩=>⟨x::xs,H2,I2,.cons r1 r2,q2⟩
noncomputable def vn (t:TA):TE:=fun σ H Q=>t σ H λxs H1=>xs.length<=sizeLine/\∀ p,H1 p=none->Q (.ref p) (upd H1 p (.tup xs))
noncomputable def vt (t:TA):TE:=fun σ H Q=>t σ H λxs H1=>xs.length<=sizeLine/\∀ p,H1 p=none->Q (.ref p) (upd H1 p (.lst xs))
theorem wT {x1}(h:PA X es t):PE X (.Tuple es x1 pos) (vn t):=by intro aa s σ H Q I hq;refine wpAny_Tuple_spliced (bu (h pos aa s σ H _ I hq) λus s1 ⟨xs,H1,I1,r,z,q⟩=>⟨by rw [<-r.length];exact z,?_⟩);have hf:H1 s1.heap.objs.size=none:=I1.aY.fresh (zD _);refine ⟨.ref s1.heap.objs.size,upd H1 s1.heap.objs.size (.tup xs),I1.laid (t':=s1.toks) (λb u e=>Heap.get?_push_of_some _ e) (zD _) ?_,rfl,q _ hf⟩;exact ⟨⟨z,tV⟩,us,r,⟨_,Heap.get?_push_size _ rfl,rfl,_,rfl⟩⟩
theorem wO (h:PA X es t):PE X (.List es pos) (vt t):=by intro aa s σ H Q I hq;refine wpAny_List_spliced (bu (h pos aa s σ H _ I hq) λus s1 ⟨xs,H1,I1,r,z,q⟩=>⟨by rw [<-r.length];exact z,?_⟩);have hf:H1 s1.heap.objs.size=none:=I1.aY.fresh (zD _);refine ⟨.ref s1.heap.objs.size,upd H1 s1.heap.objs.size (.lst xs),I1.laid (t':=s1.toks) (λb u e=>Heap.get?_push_of_some _ e) (zD _) ?_,rfl,q _ hf⟩;exact ⟨z,us,0,r,Heap.get?_push_size _ rfl⟩
end
noncomputable abbrev Sp:=List V->Hp->VK->XK->Prop
noncomputable abbrev OR:=List Env->Hp->Shared->XK->Value->Shared->Prop
structure oS (P:Program) (w:World) (K:PySem.W.Frag) (mg:Str->Option Value) (base:Heap) (A:Around) (outer:List Env) (s:Shared) (H:Hp):Prop where
 frames:A.frames=some outer
 mod:Mod K mg base
 bs:∀ b o,base.get? b=some o->s.heap.get? b=some o/\H b=none
 OP:base.objs.size<=s.heap.objs.size
 gc:s.heap.FunFrames base outer
 QF:∀ b∈mq outer,H b=none
 aY:gP P w H s.heap
 bare:AllBare s.gens
noncomputable def CE (outer:List Env)(P:Program)(w:World)(H:Hp)(s:Shared)(Q:VK)(u:Value)(s':Shared):Prop:=
 ∃ v H',s'.os=s.os/\AllBare s'.gens/\Un (mq outer) [] H H' s.heap s'.heap/\gP P w H' s'.heap/\RelV v u/\Q v H'
noncomputable def CR (CX:OR)(outer:List Env)(P:Program)(w:World)(H:Hp)(s:Shared)(Q:VK)(E:XK)(r:Result)(s':Shared):Prop:=
 match r with
 | .ok (.ret u)=>CE outer P w H s Q u s'
 | .ok _=>False
 | .error e=>CX outer H s E e s'
structure aV (P:Program) (w:World) (K:PySem.W.Frag) (mg:Str->Option Value) (base:Heap) (CX:OR) (k:Nat) (f:Addr) (fd:FuncData) (ps:List Str) (sp:Sp):Prop where
 len:∀ vs H Q E,sp vs H Q E->vs.length=ps.length
 run:∀ (A:Around) (outer:List Env) (s:Shared) (H:Hp) (args:Args) (us:List Value) (vs:List V) (Q:VK) (E:XK),cJ k A->oS P w K mg base A outer s H->BindsTo s fd args (ps.zip us)->Vals vs us->sp vs H Q E ->
  codeAny (model P w) A (.call (.ref f) args) (CR CX outer P w H s Q E) s
theorem oS.make {P:Program}{w:World}{K:PySem.W.Frag}{mg:Str->Option Value}{base:Heap}{A:Around}{outer:List Env}{s:Shared}{H:Hp}(e:oS P w K mg base A outer s H)(C:Addr)(us:List Value)(kw:List (Str×Value)) :
  oS P w K mg base (A.under (.builtin "type.__call__" ⟨.ref C::us,kw⟩)) outer s H:=⟨by first | exact e.frames | (simpa [Around.under,Code.envs,Code.isFrame,pushEnvs] using e.frames),e.mod,e.bs,e.OP,e.gc,e.QF,e.aY,e.bare⟩
theorem oS.in1 {P:Program}{w:World}{K:PySem.W.Frag}{mg:Str->Option Value}{base:Heap}{A:Around}{outer:List Env}{s:Shared}{H:Hp}(e:oS P w K mg base A outer s H) :
  oS P w K mg base A.in1 outer s H:=⟨e.frames,e.mod,e.bs,e.OP,e.gc,e.QF,e.aY,e.bare⟩
section
variable {X:Cx}{aa:List (Addr×Obj)}{σ:St}{H:Hp}{s s':Shared}
theorem Inv.SQ (I:Inv X aa σ H s):oS X.prog X.w X.K X.mg X.base X.A X.stack s H:=
 ⟨I.ok.frames,I.ok.mod,I.bs,yB I.ok.OP I.sz,I.stack,I.qS,I.aY,I.bare⟩
theorem Inv.after {Q:VK}{u:Value}(I:Inv X aa σ H s)(h:CE X.stack X.prog X.w H s Q u s'):EP X aa σ Q u s':=by obtain ⟨v,H',os,bare,un,aY,r,q⟩:=h;obtain ⟨hh,g,d,t,os'⟩:=s';obtain rfl:os'=s.os:=os;exact ⟨v,H',I.call (h':=hh) (g':=g) (d':=d) (t':=t) (ch:=[]) un aY bare (λb z=>absurd z (by simp)),r,q⟩
end
noncomputable def jx (sp:Sp)(jZ:List V)(E:XK)(t:TA):TE:=fun σ H Q=>t σ H λvs H1=>sp (vs++jZ) H1 Q E
noncomputable def WB (C:Addr)(m:Str)(sp:Sp)(jZ:List V)(E:XK)(ta:TE)(t:TA):TE:=fun σ H Q=>ta σ H λx H1=>∃ a dx fs,x=.ref a/\H1 a=some (.ins C dx fs)/\fs.lookup m=none /\
 t σ H1 λvs H2=>sp (x::(vs++jZ)) H2 Q E
noncomputable def WC (C:Addr)(sp:Sp)(jZ:List V)(E:XK)(t:TA):TE:=fun σ H Q=>t σ H λvs H1=>∀ x dx,H1 x=none->H1 dx=none->dx≠x ->
 sp (.ref x::(vs++jZ)) (upd (upd H1 dx (.own x)) x (.ins C dx [])) (λv H2=>v=.cI/\Q (.ref x) H2) E
noncomputable def Binds (K:PySem.W.Frag)(fd:FuncData)(ps:List Str)(ds:List Value):Prop:=
 ∀ (s:Shared) (us:List Value),K.In s.heap->(us++ds).length=ps.length->BindsTo s fd ⟨us,[]⟩ (ps.zip (us++ds))
theorem Binds.all {K:PySem.W.Frag}{fd:FuncData}{ps:List Str}(h:∀ us:List Value,us.length=ps.length->bindArgs fd ⟨us,[]⟩=pure (ps.zip us)):Binds K fd ps []:=λs us _ hl=>by
 rw [zq] at hl ⊢;exact .of_eq (h us hl)
noncomputable def Passes (CX:OR)(X:Cx)(E:XK):Prop:=∀ (aa:List (Addr×Obj)) (σ:St) (H:Hp) (s:Shared) (e:Value) (s':Shared),Inv X aa σ H s->CX X.stack H s E e s'->X.xe e s'
section
variable {X:Cx}{CX:OR}{k:Nat}{f C:Addr}{fd:FuncData}{ps:List Str}{sp:Sp}{jZ:List V}{ds:List Value}{E:XK}{x m:Str}{p pos apos:Pos}{e o:Expr}{es:List Expr}{ta:TE}{t:TA}
theorem Py {aa:List (Addr×Obj)}{σ:St}{H:Hp}{s:Shared}{Q:VK}{us:List Value}{vs:List V}(F:aV X.prog X.w X.K X.mg X.base CX k f fd ps sp)(hr:cJ k X.A)(hb:Binds X.K fd ps ds)(hd:Vals jZ ds)(hx:Passes CX X E)
  (I:Inv X aa σ H s) (r:Vals vs us) (h:sp (vs++jZ) H Q E):wpAny (model X.prog X.w) X.A (call (.ref f) us) (EP X aa σ Q) X.xe s:=by
 have r2:Vals (vs++jZ) (us++ds):=r.append hd;have hl:(us++ds).length=ps.length:=by rw [<-r2.length];exact F.len _ _ _ _ h
 refine wpAny_call (codeAny_mono (F.run X.A X.stack s H ⟨us,[]⟩ (us++ds) (vs++jZ) Q E hr I.SQ (hb s us I.jM hl) r2 h) λr s' hq=>?_);cases r with
 | error e=>exact hx aa σ H s e s' I hq
 | ok fl=>
  cases fl with
  | ret u=>exact I.after hq
  | next=>exact False.elim hq
  | brk=>exact False.elim hq
  | cont=>exact False.elim hq
theorem xm (F:aV X.prog X.w X.K X.mg X.base CX k f fd ps sp)(hr:cJ k X.A)(hg:Gl X x)(hm:X.mg x=some (.ref f))(hk:zG X.K (.ref f)=true)(hb:Binds X.K fd ps ds)(hd:Vals jZ ds)(hx:Passes CX X E)
  (ha:PA X (e::es) t) (uu:(x == ("__debug__" : Str))=false:=by decide) (he:starEach (e::es) X.env=(false,eval e X.env)::starEach es X.env:=by rfl) (LZ:(backTo pos (starEach es X.env)).any (·.1)=false:=by rfl) :
  PE X (.Call (.Name x p) (e::es) [] pos) (jx sp jZ E t):=by
 intro aa s σ H Q I h;refine wpAny_Call_Name_kw (iK I hg hm ?_ uu);refine PySem.W.callWith_K (h₀:=X.base) I.ok.mod.V9 hk (bu (ha pos aa s σ H _ I h) λus s1 ⟨vs,H1,I1,r,q⟩=>⟨I1.jM,?_⟩) he LZ;exact Py F hr hb hd hx I1 r q
theorem fU {pl:Sem Bool}(he:PE X o ta)(c:Q8 X.K C)(hm:Meth X.K C m f)(F:aV X.prog X.w X.K X.mg X.base CX k f fd ps sp)(hr:cJ k X.A)(hb:Binds X.K fd ps ds)(hd:Vals jZ ds)(hx:Passes CX X E)(ha:PA X (e::es) t)
  (M6:starEach (e::es) X.env=(false,eval e X.env)::starEach es X.env:=by rfl) (LZ:(backTo pos (starEach es X.env)).any (·.1)=false:=by rfl)
  (ht:eval (.Call (.Attribute o m apos) (e::es) [] pos) X.env=(do
   let ov <- eval o X.env
   standAt apos.atName
   let (f,first) <- holding [ov] (getMethod ov m pl)
   callWith pos f first (backTo pos (starEach (e::es) X.env)) (backToKw pos (keywordEach [] X.env))):=by rfl) :
  PE X (.Call (.Attribute o m apos) (e::es) [] pos) (WB C m sp jZ E ta t):=by
 intro aa s σ H Q I h;refine PySem.W.methodCall_KW (pl:=pl) (bu (he aa s σ H _ I h) λu s1 ⟨x,H1,I1,rx,a,dx,fs,ex,ea,l,q⟩=>?_) ht;subst ex;obtain rfl:u=Value.ref a:=rx;refine Ma I1 ea c hm l ?_;refine PySem.W.callWith_K (first:=[.ref a]) (h₀:=X.base) I.ok.mod.V9 hm.kp (bu (ha pos aa s1 σ H1 _ I1 q) λus s2 ⟨vs,H2,I2,r,q2⟩=>⟨I2.jM,?_⟩) M6 LZ;exact Py (us:=.ref a::us) (vs:=.ref a::vs) F hr hb hd hx I2 (.cons rfl r) q2
structure Mk (K:PySem.W.Frag) (C f:Addr):Prop where
 makes:PySem.W.makesIn K C=true
 init:zW K (.ref C) "__init__" = some (some (.ref f))
 fn:ye K (.ref f)=true
 kp:zG K (.ref C)=true
theorem Px {aa:List (Addr×Obj)}{σ:St}{H:Hp}{s:Shared}{Q:VK}{us:List Value}{vs:List V}(M:Mk X.K C f)(F:aV X.prog X.w X.K X.mg X.base CX k f fd ps sp)(hr:cJ (k + 1) X.A)(hb:Binds X.K fd ps ds)(hd:Vals jZ ds)
  (hx:Passes CX X E) (I:Inv X aa σ H s) (r:Vals vs us)
  (h:∀ x dx,H x=none->H dx=none->dx≠x->sp (.ref x::(vs++jZ)) (upd (upd H dx (.own x)) x (.ins C dx [])) (λv H2=>v=.cI/\Q (.ref x) H2) E) :
  wpAny (model X.prog X.w) X.A (call (.ref C) us) (EP X aa σ Q) X.xe s:=by
 have hq:=h (s.heap.objs.size + 1) s.heap.objs.size (I.aY.fresh (xC _)) (I.aY.fresh (zD _)) (zV (xN _));have I2:=Inv.made (C:=C) I;have r2:Vals (V.ref (s.heap.objs.size + 1)::(vs++jZ)) (Value.ref (s.heap.objs.size + 1)::(us++ds)):=.cons rfl (r.append hd);have hl:(Value.ref (s.heap.objs.size + 1)::us++ds).length=ps.length:=by
  have e:=r2.length;rw [F.len _ _ _ _ hq] at e;exact e.symm
 refine wpAny_call (Qc (f:=f) I.jM M.makes M.init (beq_iff_eq.mp M.fn) (codeAny_mono (F.run _ X.stack _ _ ⟨Value.ref (s.heap.objs.size + 1)::us,[]⟩ (Value.ref (s.heap.objs.size + 1)::(us++ds)) _ _ E (hr.make C us [])
  (I2.SQ.make C us []) (hb _ (Value.ref (s.heap.objs.size + 1)::us) I2.jM hl) r2 hq) λr s' Xy=>?_))
 cases r with
 | error e=>exact hx aa σ _ _ e s' I2 Xy
 | ok fl=>
  cases fl with
  | ret u=>
   obtain ⟨v,H',I3,rv,ev,q3⟩:=I2.after Xy;subst ev;exact ⟨rv,⟨V.ref (s.heap.objs.size + 1),H',I3,rfl,q3⟩⟩
  | next=>exact False.elim Xy
  | brk=>exact False.elim Xy
  | cont=>exact False.elim Xy
theorem Sd (M:Mk X.K C f)(F:aV X.prog X.w X.K X.mg X.base CX k f fd ps sp)(hr:cJ (k + 1) X.A)(hg:Gl X x)(hm:X.mg x=some (.ref C))(hb:Binds X.K fd ps ds)(hd:Vals jZ ds)(hx:Passes CX X E)
  (ha:PA X (e::es) t) (uu:(x == ("__debug__" : Str))=false:=by decide) (he:starEach (e::es) X.env=(false,eval e X.env)::starEach es X.env:=by rfl) (LZ:(backTo pos (starEach es X.env)).any (·.1)=false:=by rfl) :
  PE X (.Call (.Name x p) (e::es) [] pos) (WC C sp jZ E t):=by
 intro aa s σ H Q I h;refine wpAny_Call_Name_kw (iK I hg hm ?_ uu);refine PySem.W.callWith_K (h₀:=X.base) I.ok.mod.V9 M.kp (bu (ha pos aa s σ H _ I h) λus s1 ⟨vs,H1,I1,r,q⟩=>⟨I1.jM,?_⟩) he LZ;exact Px M F hr hb hd hx I1 r q
end
section
variable {X:Cx}{CX:OR}{k:Nat}{f C:Addr}{fd:FuncData}{ps ks:List Str}{sp:Sp}{E:XK}{x m:Str}{p pos apos adZ:Pos}{e o:Expr}{es:List Expr}{kws:List Keyword}{te ta:TE}{t tk:TA}{nm:Option Str}
variable {g:List Value->List Value->List Value}{gV:List V->List V->List V}
end
structure aA (N P:List Str) (sc:Scope):Prop where
 kind:sc.kind=.function
 co:sc.isCoroutine=false
 gen:sc.isGenerator=false
 nd:N.Nodup
 pre:N.take P.length=P
 par:∀ x∈P,sc.names.lookup x=some .local\/sc.names.lookup x=some .cell
 UQ:∀ y∈sc.names,y.2≠.free
theorem qF {kindOf:Str->Option NameKind}{x:Str}:∀ {binds:List (Str×Value)}{m:Str->Option Value},(∀ v,(x,v) ∉ binds)->bindL kindOf binds m x=m x
 | [],_,_=>rfl
 | (n,v)::r,m,h=>by
  unfold bindL;rw [qF λw hw=>h w (zc _ hw)];split
  ·have:x≠n:=by rintro rfl;exact h v z8
   simp [this]
  ·rfl
theorem qH {kindOf:Str->Option NameKind}{x:Str}:∀ {binds:List (Str×Value)}{m:Str->Option Value},(∀ v,(x,v) ∉ binds)->bindC kindOf binds m x=m x
 | [],_,_=>rfl
 | (n,v)::r,m,h=>by
  unfold bindC;rw [qH λw hw=>h w (zc _ hw)];split
  ·rfl
  ·have:x≠n:=by rintro rfl;exact h v z8
   simp [this]
theorem qG {kindOf:Str->Option NameKind}{x:Str}{v:Value}:∀ {P:List Str}{vs:List Value}{i:Nat}{m:Str->Option Value},P.Nodup->P[i]?=some x->vs[i]?=some v->kindOf x=some .local ->
  bindL kindOf (P.zip vs) m x=some v
 | [],_,_,_,_,h,_,_=>by simp at h
 | _::_,[],_,_,_,_,h,_=>by simp at h
 | p::P,w::vs,0,m,nd,h1,h2,hk=>by
  simp at h1 h2;subst h1;subst h2;show bindL kindOf ((p,w)::P.zip vs) m p=_;unfold bindL;rw [qF λv hv=>(zk.mp nd).1 (List.of_mem_zip hv).1,if_pos hk];simp
 | p::P,w::vs,i + 1,m,nd,h1,h2,hk=>by
  show bindL kindOf ((p,w)::P.zip vs) m x=_;unfold bindL;exact qG (i:=i) (zk.mp nd).2 (by simpa using h1) (by simpa using h2) hk
theorem qI {kindOf:Str->Option NameKind}{x:Str}{v:Value}:∀ {P:List Str}{vs:List Value}{i:Nat}{m:Str->Option Value},P.Nodup->P[i]?=some x->vs[i]?=some v->kindOf x≠some .local ->
  bindC kindOf (P.zip vs) m x=some v
 | [],_,_,_,_,h,_,_=>by simp at h
 | _::_,[],_,_,_,_,h,_=>by simp at h
 | p::P,w::vs,0,m,nd,h1,h2,hk=>by
  simp at h1 h2;subst h1;subst h2;show bindC kindOf ((p,w)::P.zip vs) m p=_;unfold bindC;rw [qH λv hv=>(zk.mp nd).1 (List.of_mem_zip hv).1,if_neg hk];simp
 | p::P,w::vs,i + 1,m,nd,h1,h2,hk=>by
  show bindC kindOf ((p,w)::P.zip vs) m x=_;unfold bindC;exact qI (i:=i) (zk.mp nd).2 (by simpa using h1) (by simpa using h2) hk
noncomputable def start (N:List Str)(vs:List V):St:=vs.map some++List.replicate (N.length - vs.length) none
noncomputable def iu (CX:OR)(P:Program)(w:World)(K:PySem.W.Frag)(mg:Str->Option Value)(base:Heap)(N:List Str)(qual:Str)(scope:Scope)(f:Addr)(cd:Value)(A:Around)(outer:List Env)(s:Shared)(H:Hp)(E:XK):Cx where
 prog:=P
 w:=w
 K:=K
 mg:=mg
 base:=base
 A:=A.deeper (envOfC qual scope s.heap.objs.size f cd)
 N:=N
 cP:=s
 OJ:=H
 env:=envOfC qual scope s.heap.objs.size f cd
 outer:=outer
 stack:=envOfC qual scope s.heap.objs.size f cd::outer
 ex:=[]
 calm:=true
 fn:=λ_=>true
 pn:=[]
 xe:=λe s'=>wpAny (model P w) (A.deeper (envOfC qual scope s.heap.objs.size f cd)) (leaving (envOfC qual scope s.heap.objs.size f cd) e) (λ_ vK=>CX outer H s E e vK) (λe' vK=>CX outer H s E e' vK) s'
theorem uN {sc:Scope}{n:Nat}{x:Str}(h:sc.names.lookup x=some .cell):∃ c,(cellsFrom n sc.names []).lookup x=some c:=by have q:=PySem.W.cellsFrom_some sc.names n [] (.inl h);exact Option.isSome_iff_exists.mp q
theorem qj {CX:OR}{P:Program}{w:World}{K:PySem.W.Frag}{mg:Str->Option Value}{base:Heap}{N ps:List Str}{qual:Str}{scope:Scope}{f:Addr}{cd:Value}{A:Around}{outer:List Env}{s s1:Shared}{H:Hp}{E:XK}{us:List Value}{vs:List V}
  (S:aA N ps scope) (hd:A.handled=none) (e0:oS P w K mg base A outer s H) (hl:vs.length=ps.length) (r:Vals vs us)
  (x:InCallC s s.heap.objs.size (bindL (envOfC qual scope s.heap.objs.size f cd).kindOf (ps.zip us) λ_=>none) (cellsFrom (s.heap.objs.size + 1) scope.names []) (bindC (envOfC qual scope s.heap.objs.size f cd).kindOf (ps.zip us) λ_=>none) s1) :
  Inv (iu CX P w K mg base N qual scope f cd A outer s H E) [] (start N vs) H s1:=by
 have LZ:ps.length<=N.length:=by have:=congrArg List.length S.pre;rw [zZ] at this;omega
 obtain ⟨h1,tk,rfl,hk⟩:=x.done;have ZN:∀ b:Addr,b ∉ (iu CX P w K mg base N qual scope f cd A outer s H E).ex:=λb z=>absurd (show b∈([]:List Addr) from z) (by simp);refine ⟨⟨e0.mod,S.kind,rfl,rfl,zD _,λy z c h1 h2=>?_,λy hy=>?_,λy c _ h=>?_,λ_=>hd,Around.frames_deeper e0.frames,.inr ⟨rfl,rfl⟩,λb z=>absurd z (ZN b),e0.bs,e0.OP,λb _ _=>ZN b,λb z=>absurd z (ZN b),e0.gc,e0.QF⟩,
  rfl,e0.bare,Un.kept hk,⟨_,x.toInCall.ns,λi y v h1 h2 h3=>?_⟩,λy c h=>⟨_,x.cell y c h⟩,e0.aY.fresh (zD _),λy c h=>?_,λp hp=>absurd (show p∈([]:List (Addr×Obj)) from hp) (by simp),e0.aY.kept hk,?_⟩
 ·exact name_of_addr x.apart (yL h1) (yL h2)
 ·have hy:scope.names.lookup y=some .cell\/scope.names.lookup y=some .free:=hy;rcases hy with hy | hy
  ·exact uN hy
  ·exact absurd rfl (S.UQ _ (yL hy))
 ·exact xL (x.above y c (yL h))
 ·have hi:i < vs.length:=by
   unfold start at h2;by_cases hi:i < vs.length
   ·exact hi
   ·rw [zY (by simpa using hi)] at h2;rw [List.getElem?_replicate] at h2;split at h2 <;> cases h2
  have ha:vs[i]?=some v:=by
   unfold start at h2;rw [zU (by simpa using hi),zS] at h2;cases e:vs[i]? with
   | none=>rw [e] at h2;cases h2
   | some a=>rw [e] at h2;cases h2;rfl
  obtain ⟨u,hu,rv⟩:=r.get ha;have hp:ps[i]?=some y:=by
   rw [<-S.pre,List.getElem?_take_of_lt (by omega)];exact h1
  have ndP:ps.Nodup:=by rw [<-S.pre];exact S.nd.sublist (List.take_sublist _ _)
  refine ⟨u,rv,?_⟩;rcases S.par y (zB hp) with k | k
  ·exact .inl ⟨k,qG ndP hp hu k⟩
  ·obtain ⟨c,e⟩:=uN (n:=s.heap.objs.size + 1) k;refine .inr ⟨.inl k,c,e,?_⟩;have q:=x.cell y c e;rw [qI ndP hp hu (by show scope.names.lookup y≠_;rw [k];decide)] at q;exact q
 ·exact e0.aY.fresh (xL (x.above y c (yL h)))
 ·unfold start;show _=N.length;rw [zE,zA,List.length_replicate];omega
theorem QG {CX:OR}{P:Program}{w:World}{K:PySem.W.Frag}{mg:Str->Option Value}{base:Heap}{k:Nat}{f:Addr}{name qual:Str}{params:Arguments}{body:List Stmt}{scope:Scope}{dV kV doc pm bZ ct oc:Value}{an od:Option Addr}
  {Rc:Array (Option Value)}{N ps:List Str}{sp:Sp} (lk:K.lookup f=some ⟨oc,od,.func (xV name qual params body scope dV kV doc pm an bZ ct),Rc⟩) (rN:PySem.W.codeIn K bZ qual=true) (S:aA N ps scope)
  (len:∀ vs H Q E,sp vs H Q E->vs.length=ps.length)
  (ir:∀ (A:Around) (outer:List Env) (s:Shared) (H:Hp) (vs:List V) (Q:VK) (E:XK),cJ k (A.deeper (envOfC qual scope s.heap.objs.size f bZ))->sp vs H Q E ->
   ∃ t,qK (iu CX P w K mg base N qual scope f bZ A outer s H E) body t/\t { nx:=λ_ H'=>Q .cI H',rt:=Q } (start N vs) H) :
  aV P w K mg base CX (k + 1) f (xV name qual params body scope dV kV doc pm an bZ ct) ps sp:=by
 refine ⟨len,λA outer s H args us vs Q E hr e0 hb r um=>?_⟩;have hl:=len _ _ _ _ um;have KX:K.In s.heap:=e0.mod.V9.keeps λb o e=>(e0.bs b o e).1;have lim:s.heap.NoLimit:=e0.mod.nolimit.keeps λb o e=>(e0.bs b o e).1;have Qv:∀ y∈ps.zip us,scope.names.lookup y.1=some .local\/(scope.names.lookup y.1=some .cell/\((cellsFrom (s.heap.objs.size + 1) scope.names []).lookup y.1).isSome=true):=λ⟨n,v⟩ hy=>by
  rcases S.par n (List.of_mem_zip hy).1 with q | q
  ·exact .inl q
  ·exact .inr ⟨q,PySem.W.cellsFrom_some _ _ _ (.inl q)⟩
 refine codeAny_call_function hr.depth (KX _ _ lk) rfl S.co S.gen rfl (PySem.W.codeRec_of KX rN) (hb _ _ _ _ ?_);refine wpAny_newFunctionEnv_cells S.kind Qv λenv he s1 x=>?_;subst he;refine ⟨lim.keeps x.toInCall.keep,codeAny_func ?_⟩;obtain ⟨t,ht,hq⟩:=ir A outer s H vs Q E (hr.deeper _) um;have I:Inv (iu CX P w K mg base N qual scope f bZ A outer s H E) [] (start N vs) H s1:=qj S hr.hd e0 hl r x;refine wpAny_mono (ht [] s1 (start N vs) H _ I hq) (λfl s' hs=>?_) λe s' hs=>hs;have fin:∀ {cz:St}{H':Hp}{v:V}{u:Value},Inv (iu CX P w K mg base N qual scope f bZ A outer s H E) [] cz H' s'->RelV v u->Q v H'->CE outer P w H s Q u s':=
  λ{cz H' v u} J rv q=>⟨v,H',J.os,J.bare,J.base,J.aY,rv,q⟩
 cases fl with
 | ret u=>
  obtain ⟨v,cz,H',J,rv,q⟩:=hs;exact fin J rv q
 | next=>
  obtain ⟨cz,H',J,q⟩:=hs;exact fin (v:=V.cI) (u:=Value.none) J rfl q
 | brk=>
  obtain ⟨_,_,_,q⟩:=hs;exact False.elim q
 | cont=>
  obtain ⟨_,_,_,q⟩:=hs;exact False.elim q
section
variable {X:Cx}{x:Str}{p pos:Pos}{e:Expr}{es:List Expr}{t:TA}{id T:String}{r:List V->Hp->VK->Prop}
noncomputable def RA (r:List V->Hp->VK->Prop)(t:TA):TE:=fun σ H Q=>t σ H λvs H1=>r vs H1 Q
theorem xw (hc:dZ X (.builtin id) r)(hg:Gl X x)(hm:X.mg x=none)(hv:bootBuiltins x=some (.builtin id))(ha:PA X (e::es) t)(hn:x ≠ "__name__" := by decide)(uu:(x == ("__debug__" : Str))=false:=by decide)
  (he:starEach (e::es) X.env=(false,eval e X.env)::starEach es X.env:=by rfl) (LZ:(backTo pos (starEach es X.env)).any (·.1)=false:=by rfl):PE X (.Call (.Name x p) (e::es) [] pos) (RA r t):=by
 intro aa s σ H Q I h;refine wpAny_Call_Name_kw (fX I hg hm hv ?_ hn uu);exact PyProof.Rows.callWith_builtin1 (bu (ha pos aa s σ H _ I h) λus s1 ⟨vs,H1,I1,r1,q1⟩=>hc aa s1 σ H1 vs us Q I1 r1 q1) he LZ
theorem wz (hc:dZ X (.type T) r)(hg:Gl X x)(hm:X.mg x=none)(hv:bootBuiltins x=some (.type T))(ha:PA X (e::es) t)(hn:x ≠ "__name__" := by decide)(uu:(x == ("__debug__" : Str))=false:=by decide)
  (he:starEach (e::es) X.env=(false,eval e X.env)::starEach es X.env:=by rfl) (LZ:(backTo pos (starEach es X.env)).any (·.1)=false:=by rfl):PE X (.Call (.Name x p) (e::es) [] pos) (RA r t):=by
 intro aa s σ H Q I h;refine wpAny_Call_Name_kw (fX I hg hm hv ?_ hn uu);exact yR (bu (ha pos aa s σ H _ I h) λus s1 ⟨vs,H1,I1,r1,q1⟩=>hc aa s1 σ H1 vs us Q I1 r1 q1) he LZ
theorem vQ (hc:dZ X (.type T) r)(hg:Gl X x)(hm:X.mg x=none)(hv:bootBuiltins x=some (.type T))(hn:x ≠ "__name__" := by decide)(uu:(x == ("__debug__" : Str))=false:=by decide) :
  PE X (.Call (.Name x p) [] [] pos) (RA r oX):=by
 intro aa s σ H Q I h;refine wpAny_Call_Name_kw (fX I hg hm hv ?_ hn uu);exact PyProof.Rows.callWith_type0 (hc aa s σ H [] [] Q I .nil h)
end
section
variable {κ:Type} [DecidableEq κ]
noncomputable def cS (aF:List (κ×V))(k:κ):Option V:=(aF.find? λkv=>decide (kv.1=k)).map (·.2)
noncomputable def putK (aF:List (κ×V))(k:κ)(v:V):List (κ×V):=
 if (aF.any λkv=>decide (kv.1=k))=true then aF.map (λkv=>if kv.1=k then (kv.1,v) else kv) else aF++[(k,v)]
theorem wf {p:κ×V}{r:List (κ×V)}{k:κ}(e:p.1=k):cS (p::r) k=some p.2:=by simp [cS,xG,e]
theorem wc {p:κ×V}{r:List (κ×V)}{k:κ}(e:¬ p.1=k):cS (p::r) k=cS r k:=by simp [cS,xG,e]
theorem fq (k:κ):∀ aF:List (κ×V),(aF.any λkv=>decide (kv.1=k))=(cS aF k).isSome
 | []=>rfl
 | p::r=>by
  rw [xQ];by_cases e:p.1=k
  ·simp only [wf e,decide_eq_true e,Bool.true_or,Option.isSome_some]
  ·rw [wc e,decide_eq_false e,Bool.false_or];exact fq k r
theorem sP (k j:κ)(y:V):∀ aF:List (κ×V),cS (aF.map λkv=>if kv.1=k then (kv.1,y) else kv) j=(cS aF j).map λx=>if j=k then y else x
 | []=>rfl
 | p::r=>by
  have ih:=sP k j y r;rw [zo];by_cases h:p.1=k
  ·rw [if_pos h];by_cases e:p.1=j
   ·rw [wf (p:=(p.1,y)) e,wf e,xU,if_pos (e.symm.trans h)]
   ·rw [wc (p:=(p.1,y)) e,wc e,ih]
  ·rw [if_neg h];by_cases e:p.1=j
   ·rw [wf (p:=p) e,wf e,xU,if_neg (λz=>h (e.trans z))]
   ·rw [wc (p:=p) e,wc e,ih]
theorem pQ (k j:κ)(y:V):∀ aF:List (κ×V),cS aF k=none->cS (aF++[(k,y)]) j=if j=k then some y else cS aF j
 | [],_=>by
  by_cases e:k=j
  ·rw [if_pos e.symm];exact wf (p:=(k,y)) e
  ·rw [if_neg (λz=>e z.symm)];exact wc (p:=(k,y)) e
 | p::r,hn=>by
  rw [yh];have hk:¬ p.1=k:=λz=>by rw [wf z] at hn;cases hn
  rw [wc hk] at hn;have ih:=pQ k j y r hn;by_cases e:p.1=j
  ·rw [wf e,wf e,if_neg (λz=>hk (e.trans z))]
  ·rw [wc e,wc e,ih]
theorem sO (aF:List (κ×V))(k j:κ)(y:V):cS (putK aF k y) j=if j=k then some y else cS aF j:=by
 unfold putK;by_cases a:(aF.any λkv=>decide (kv.1=k))=true
 ·rw [if_pos a,sP];rw [fq] at a;by_cases e:j=k
  ·obtain ⟨x,hx⟩:=Option.isSome_iff_exists.mp a;rw [if_pos e,e,hx,xU,if_pos rfl]
  ·rw [if_neg e];cases cS aF j with
   | none=>rfl
   | some x=>rw [xU,if_neg e]
 ·rw [if_neg a];refine pQ k j y aF ?_;rw [fq] at a;cases q:cS aF k with
  | none=>rfl
  | some x=>rw [q] at a;exact (a rfl).elim
theorem eV (aF:List (κ×V))(k:κ)(v:V):(putK aF k v).length<=aF.length + 1:=by
 unfold putK;split
 ·rw [zA];omega
 ·rw [zE,zX,yI];omega
theorem iT.fH {o:Option V}{u:Option Value}(r:iT o u):o.isSome=u.isSome:=by
 cases o with
 | none=>cases u with
  | none=>rfl
  | some _=>exact (show False from r).elim
 | some _=>cases u with
  | none=>exact (show False from r).elim
  | some _=>rfl
theorem KV.val {aF:List (κ×V)}{vs:List (κ×Value)}(r:KV aF vs)(k:κ):iT (cS aF k) (valueAt vs k):=by
 unfold KV at r;induction r with
 | nil=>exact True.intro
 | @cons p q ps qs h t ih=>
  obtain ⟨h1,h2⟩:=h;by_cases e:p.1=k
  ·have e':q.1=k:=h1.symm.trans e;have b:valueAt (q::qs) k=some q.2:=by simp [valueAt,xG,e']
   rw [wf e,b];exact h2
  ·have e':¬ q.1=k:=λz=>e (h1.trans z);have b:valueAt (q::qs) k=valueAt qs k:=by simp [valueAt,xG,e']
   rw [wc e,b];exact ih
theorem KV.any {aF:List (κ×V)}{vs:List (κ×Value)}(r:KV aF vs)(k:κ):(aF.any λkv=>decide (kv.1=k))=vs.any λkv=>decide (kv.1=k):=by
 unfold KV at r;induction r with
 | nil=>rfl
 | cons h t ih=>rw [xQ,xQ,ih,h.1]
theorem KV.UB {aF:List (κ×V)}{vs:List (κ×Value)}(r:KV aF vs)(k:κ){y:V}{u:Value}(ry:RelV y u) :
  KV (aF.map λkv=>if kv.1=k then (kv.1,y) else kv) (vs.map λkv=>if kv.1=k then (kv.1,u) else kv):=by
 unfold KV at r ⊢;induction r with
 | nil=>exact .nil
 | @cons p q ps qs h t ih=>
  rw [zo,zo];refine .cons ?_ ih;obtain ⟨h1,h2⟩:=h;by_cases e:p.1=k
  ·rw [if_pos e,if_pos (h1.symm.trans e)];exact ⟨h1,ry⟩
  ·rw [if_neg e,if_neg (λz=>e (h1.trans z))];exact ⟨h1,h2⟩
theorem KV.put {aF:List (κ×V)}{vs:List (κ×Value)}(r:KV aF vs)(k:κ){y:V}{u:Value}(ry:RelV y u):KV (putK aF k y) (stored vs k u):=by
 unfold putK stored;rw [r.any k];by_cases e:(vs.any λkv=>decide (kv.1=k))=true
 ·rw [if_pos e,if_pos e];exact r.UB k ry
 ·rw [if_neg e,if_neg e];exact Paired.snoc r ⟨rfl,ry⟩
theorem KV.length {aF:List (κ×V)}{vs:List (κ×Value)}(r:KV aF vs):aF.length=vs.length:=Paired.length r
end
theorem qh {P:Program}{w:World}{k:Key}{u:Value}(r:RelV (kV k) u):(aQ P w).is k u=true:=by
 cases k with
 | inl i=>obtain ⟨t,e⟩:=(show ∃ t,u=Value.int i t from r);subst e;exact t9 P w i t
 | inr x=>obtain ⟨t,e⟩:=(show ∃ t,u=Value.str x t from r);subst e;exact t8 P w x t
theorem qi {P:Program}{w:World}:∀ {ks:List Key}{us:List Value},Vals (ks.map kV) us->ItemsAre (aQ P w) ks us
 | [],_,r=>by rw [yf] at r;cases r;exact .nil
 | k::ks,_,r=>by
  rw [zo] at r;cases r with
  | cons h t=>exact .cons (qh h) (qi t)
noncomputable abbrev KT (H:Hp):List (List Key×V)->List (List Key×Addr×Value)->Prop:=Paired λp q=>p.1=q.1/\H q.2.1=some (.tup (p.1.map kV))/\RelV p.2 q.2.2
theorem KT.val {H:Hp}{aF:List (List Key×V)}{xs:List (List Key×Addr×Value)}(r:KT H aF xs)(k:List Key):iT (cS aF k) ((atKey xs k).map (·.2)):=by
 induction r with
 | nil=>exact True.intro
 | @cons p q ps qs h t ih=>
  obtain ⟨h1,_,h2⟩:=h;by_cases e:p.1=k
  ·have e':q.1=k:=h1.symm.trans e;have b:atKey (q::qs) k=some q.2:=by simp [atKey,xG,e']
   rw [wf e,b];exact h2
  ·have e':¬ q.1=k:=λz=>e (h1.trans z);have b:atKey (q::qs) k=atKey qs k:=by simp [atKey,xG,e']
   rw [wc e,b];exact ih
theorem KT.UB {H:Hp}{aF:List (List Key×V)}{xs:List (List Key×Addr×Value)}(r:KT H aF xs)(k:List Key){y:V}{u:Value}(ry:RelV y u) :
  KT H (aF.map λkv=>if kv.1=k then (kv.1,y) else kv) (xs.map (putAt k u)):=by
 induction r with
 | nil=>exact .nil
 | @cons p q ps qs h t ih=>
  rw [zo,zo];refine .cons ?_ ih;obtain ⟨h1,h2,h3⟩:=h;unfold putAt;by_cases e:p.1=k
  ·rw [if_pos e,if_pos (h1.symm.trans e)];exact ⟨h1,h2,ry⟩
  ·rw [if_neg e,if_neg (λz=>e (h1.trans z))];exact ⟨h1,h2,h3⟩
theorem KT.put {H:Hp}{aF:List (List Key×V)}{xs:List (List Key×Addr×Value)}(r:KT H aF xs)(k:List Key){b:Addr}{y:V}{u:Value}(hb:H b=some (.tup (k.map kV)))(ry:RelV y u) :
  KT H (putK aF k y) (storedH xs k b u):=by
 have e:(aF.any λkv=>decide (kv.1=k))=(atKey xs k).isSome:=by
  rw [fq,(r.val k).fH,Option.isSome_map]
 unfold putK storedH;rw [e];by_cases q:(atKey xs k).isSome=true
 ·rw [if_pos q,if_pos q];exact r.UB k ry
 ·rw [if_neg q,if_neg q];exact Paired.snoc r ⟨rfl,hb,ry⟩
theorem KT.keeps {H H':Hp}{aF:List (List Key×V)}{xs:List (List Key×Addr×Value)}(r:KT H aF xs)(ht:∀ b ys,H b=some (.tup ys)->H' b=some (.tup ys)):KT H' aF xs:=
 Paired.UW r λ_ _ z=>⟨z.1,ht _ _ z.2.1,z.2.2⟩
section
variable {P:Program}{w:World}{H:Hp}{h:Heap}{a:Addr}
theorem Te {u:HO}(ok:gP P w H h)(e:Rd H a u):bK P w H h a u:=e.ok ok
theorem qx {aF:List (Key×V)}(ok:gP P w H h)(e:Rd H a (.dK aF)):aF.length<=sizeLine/\(a == sysModules)=false/\∃ vs,KV aF vs/\h.DictOf (aQ P w) a vs:=
 show bK P w H h a (.dK aF) from Te ok e
theorem TY {aF:List (Key×V)}(ok:gP P w H h)(e:H a=some (.dK aF)):aF.length<=sizeLine/\(a == sysModules)=false/\∃ vs,KV aF vs/\h.DictOf (aQ P w) a vs:=qx ok (.inl e)
theorem ie {ks:List Key}(ok:gP P w H h)(e:H a=some (.tup (ks.map kV))):(tupleKind (aQ P w)).is h ks a:=by obtain ⟨_,aC,r,o,h1,h2,n,h3⟩:=(show bK P w H h a (.tup (ks.map kV)) from ok a _ e);exact ⟨o,aC.toArray,n,h1,h2,h3,by simpa using qi r⟩
theorem uB {aF:List (List Key×V)}(ok:gP P w H h)(e:Rd H a (.dT aF)):aF.length<=sizeLine/\(a == sysModules)=false /\
  ∃ xs,KT H aF xs/\h.DictOfH (tupleKind (aQ P w)) a xs:=by
 obtain ⟨z,y,xs,r,o,es,ep,h1,h2,h3,h4,h5⟩:=(show bK P w H h a (.dT aF) from Te ok e);refine ⟨z,y,xs,r,o,es,ep,h1,h2,h3,h4,λx hx=>?_,h5⟩;have all:∀ {l:List (List Key×V)}{m:List (List Key×Addr×Value)},KT H l m->∀ x∈m,(tupleKind (aQ P w)).is h x.1 x.2.1:=by
  intro l m q;induction q with
  | nil=>intro x hx;exact nomatch hx
  | @cons p q ps qs hq t ih=>
   intro x hx;rcases zH.mp hx with e | hx
   ·subst e;exact ie ok (by rw [<-hq.1];exact hq.2.1)
   ·exact ih x hx
 exact all r x hx
theorem Yh {aF:List (List Key×V)}(ok:gP P w H h)(e:H a=some (.dT aF)):aF.length<=sizeLine/\(a == sysModules)=false /\
  ∃ xs,KT H aF xs/\h.DictOfH (tupleKind (aQ P w)) a xs:=uB ok (.inl e)
end
noncomputable def iU (H:Hp)(a:Addr)(y:V)(r:Option V):Prop:=
 (∃ aF k,Rd H a (.dK aF)/\y=kV k/\r=cS aF k)\/∃ aF k b,Rd H a (.dT aF)/\y=.ref b/\H b=some (.tup (k.map kV))/\r=cS aF k
noncomputable def OL (H:Hp)(a:Addr)(y v:V)(H':Hp):Prop:=
 (∃ aF k,H a=some (.dK aF)/\y=kV k/\aF.length < sizeLine/\H'=upd H a (.dK (putK aF k v))) \/
 ∃ aF k b,H a=some (.dT aF)/\y=.ref b/\H b=some (.tup (k.map kV))/\aF.length < sizeLine/\H'=upd H a (.dT (putK aF k v))
theorem iU.k {H:Hp}{a:Addr}{aF:List (Key×V)}{k:Key}(e:H a=some (.dK aF)):iU H a (kV k) (cS aF k):=.inl ⟨aF,k,.inl e,rfl,rfl⟩
theorem OL.k {H:Hp}{a:Addr}{aF:List (Key×V)}{k:Key}{v:V}(e:H a=some (.dK aF))(hl:aF.length < sizeLine):OL H a (kV k) v (upd H a (.dK (putK aF k v))):=.inl ⟨aF,k,e,rfl,hl,rfl⟩
section
variable {X:Cx}{aa:List (Addr×Obj)}{σ:St}{H:Hp}{s:Shared}{a:Addr}{y v:V}{u r:Value}{o:Option V}{A:Around}{E:Value->Shared->Prop}
theorem Inv.big (I:Inv X aa σ H s):sysModules < s.heap.objs.size:=by have h:mainGlobals < s.heap.objs.size:=(I.mod.glob.keeps I.bk).lt;exact Nat.lt_trans (by decide) h
theorem Oz {Q:Value->Shared->Prop}(hu:A.units + 1 < cLine)(I:Inv X aa σ H s)(g:iU H a y (some v))(ry:RelV y u)(h:∀ w' s',Inv X aa σ H s'->RelV v w'->Q w' s') :
  wpAny (model X.prog X.w) A (getItem (.ref a) u) Q E s:=by
 rcases g with ⟨aF,k,e,ey,l⟩ | ⟨aF,k,b,e,ey,eb,l⟩
 ·subst ey;obtain ⟨z,hd,vs,rel,dd⟩:=qx I.aY e;obtain ⟨w',hw,Pr⟩:=iT.some_of (v:=v) (o:=valueAt vs k) (by rw [l];exact rel.val k);exact wpAny_getItem_of (qh ry) dd.mapOf hw (h w' _ (I.tok _) Pr)
 ·subst ey;cases (show u=Value.ref b from ry);obtain ⟨z,hd,xs,rel,dd⟩:=uB I.aY e;obtain ⟨w',hw,Pr⟩:=iT.some_of (v:=v) (o:=(atKey xs k).map (·.2)) (by rw [l];exact rel.val k);obtain ⟨p,hp,Tz⟩:=Option.map_eq_some_iff.mp hw;refine wpAny_getItem_heap (tupleKind_room_in1 hu) (ie I.aY eb) dd hp ?_;rw [Tz];exact h w' _ (I.tok _) Pr
theorem aaN {Q:Value->Shared->Prop}(hu:A.units + 1 < cLine)(I:Inv X aa σ H s)(g:iU H a y o)(ry:RelV y u)(h:∀ s',Inv X aa σ H s'->Q (.bool o.isSome) s') :
  wpAny (model X.prog X.w) A (compareOp .In u (.ref a)) Q E s:=by
 rcases g with ⟨aF,k,e,ey,l⟩ | ⟨aF,k,b,e,ey,eb,l⟩
 ·subst ey;obtain ⟨z,hd,vs,rel,dd⟩:=qx I.aY e;refine wpAny_in_of (qh ry) hd dd.mapOf ?_;rw [<-(rel.val k).fH,<- l];exact h _ (I.tok _)
 ·subst ey;cases (show u=Value.ref b from ry);obtain ⟨z,hd,xs,rel,dd⟩:=uB I.aY e;refine wpAny_in_heap (tupleKind_room_in1 hu) (ie I.aY eb) hd dd ?_;have q:=(rel.val k).fH;rw [Option.isSome_map] at q;rw [<-q,<- l];exact h _ (I.tok _)
theorem SS {Q:Value->Shared->Prop}(hu:A.units + 1 < cLine)(I:Inv X aa σ H s)(g:iU H a y o)(ry:RelV y u)(h:∀ s',Inv X aa σ H s'->Q (.bool (!o.isSome)) s') :
  wpAny (model X.prog X.w) A (compareOp .NotIn u (.ref a)) Q E s:=by
 rcases g with ⟨aF,k,e,ey,l⟩ | ⟨aF,k,b,e,ey,eb,l⟩
 ·subst ey;obtain ⟨z,hd,vs,rel,dd⟩:=qx I.aY e;refine wpAny_notIn_of (qh ry) hd dd.mapOf ?_;rw [<-(rel.val k).fH,<- l];exact h _ (I.tok _)
 ·subst ey;cases (show u=Value.ref b from ry);obtain ⟨z,hd,xs,rel,dd⟩:=uB I.aY e;refine wpAny_notIn_heap (tupleKind_room_in1 hu) (ie I.aY eb) hd dd ?_;have q:=(rel.val k).fH;rw [Option.isSome_map] at q;rw [<-q,<- l];exact h _ (I.tok _)
theorem rW {h':Heap}{t':Nat}{ob:HO}(I:Inv X aa σ H s)(mu:Yq (H a))(hs:Heap.SameBut a s.heap h')(he:∃ q,h'.get? a=some q)(new:bK X.prog X.w (upd H a ob) h' a ob) :
  Inv X aa σ (upd H a ob) { s with heap:=h',toks:=t' }:=
 I.write (x:=a) (e:=a) mu (.inl rfl) (λb q hb z=>(hs.2 b hb).trans z) he new
theorem QL {P:Program}{w:World}{H':Hp}{h':Heap}{aF:List (Key×V)}{vs:List (Key×Value)}(z:aF.length<=sizeLine)(hd:(a == sysModules)=false)(rel:KV aF vs)(dd:h'.DictOf (aQ P w) a vs) :
  bK P w H' h' a (.dK aF):=⟨z,hd,vs,rel,dd⟩
theorem Ox {H':Hp}{Q:Unit->Shared->Prop}(hu:A.units + 1 < cLine)(I:Inv X aa σ H s)(g:OL H a y v H')(ry:RelV y u)(rv:RelV v r)(h:∀ s',Inv X aa σ H' s'->Q () s') :
  wpAny (model X.prog X.w) A (setItem (.ref a) u r) Q E s:=by
 rcases g with ⟨aF,k,e,ey,l,eH⟩ | ⟨aF,k,b,e,ey,eb,l,eH⟩
 ·subst ey eH;obtain ⟨z,hd,vs,rel,dd⟩:=TY I.aY e;have hz:vs.length<=sizeLine:=by rw [<-rel.length];exact z
  have hl:(putK aF k v).length<=sizeLine:=by have:=eV aF k v;omega
  refine wpAny_setItem_pairs (hsz:=hz) (qh ry) dd λh' VM hs=>h _ ?_;have he:∃ q,h'.get? a=some q:=let ⟨q,_,_,hq,_⟩:=VM;⟨q,hq⟩;exact rW I (by rw [e];exact True.intro) hs he (QL hl hd (rel.put k rv) VM)
 ·subst ey eH;cases (show u=Value.ref b from ry);obtain ⟨z,hd,xs,rel,dd⟩:=Yh I.aY e;have hz:xs.length<=sizeLine:=by rw [<-Paired.length rel];exact z
  have hl:(putK aF k v).length<=sizeLine:=by have:=eV aF k v;omega
  refine wpAny_setItem_heap (hsz:=hz) (tupleKind_room_in1 hu) (ie I.aY eb) dd λh' VM hs=>h _ ?_;obtain ⟨q,es,ep,hq,h2,h3,h4,_,h5⟩:=VM;refine rW I (by rw [e];exact True.intro) hs ⟨q,hq⟩ ⟨hl,hd,_,(rel.put k eb rv).keeps λc ys ec=>?_,q,es,ep,hq,h2,h3,h4,h5⟩;rw [xj (cT ec e (λz=>nomatch z))];exact ec
end
section
variable {X:Cx}{aa:List (Addr×Obj)}{σ:St}{H:Hp}{s:Shared}{a:Addr}{aF:List (Key×V)}{k:Key}{u:Value}{A:Around}{E:Value->Shared->Prop}
end
noncomputable def Yp (i:Expr):Prop:=∀ ov iv,subscripted i false ov iv=operate [ov,iv] (getItem ov iv)
theorem RB {prog:Program}{w:World}{A:Around}{E:Value->Shared->Prop}{s:Shared}{env:Env}{value slice:Expr}{pos:Pos}{T id:String}{Q:Value->Shared->Prop}
  (hl:typeLookup (.type T) "__getitem__" = pure (some (.builtin id))) (hs:Yp slice)
  (h:wpAny (model prog w) A (eval value env) (λo bG=>wpAny (model prog w) A (eval slice env) (λi ki=>ki.TypeIs o T/\wpAny (model prog w) A (getItem o i) Q E ki) E bG) E s) :
  wpAny (model prog w) A (eval (.Subscript value slice pos) env) Q E s:=by
 refine Subscript_ (wpAny_mono h (λo bG gI=>wpAny_mono gI (λi ki Qq=>?_) λ_ _ x=>x) λ_ _ x=>x);obtain ⟨hT,Qq⟩:=Qq;unfold subscriptTail;refine wpAny_bind ?_;rw [getitemInPython_of_ne hT.not_modules];refine wpAny_bind (wpAny_specialOf hT hl ?_);have fin:wpAny (model prog w) A (subscripted slice false o i) (λr sV=>wpAny (model prog w) A (letTemporaryGo value o r >>= λ_=>pure r) Q E sV) E ki:=by
  rw [hs o i];exact wpAny_operating (wpAny_mono Qq (λr sV Sx=>wpAny_bind (wpAny_letTemporaryGo (wpAny_pure Sx))) λ_ _ x=>x)
 first
  | exact wpAny_pure (wpAny_bind fin)
  | exact wpAny_bind (wpAny_pure (wpAny_bind fin))
  | exact wpAny_bind fin
theorem uD {X:Cx}{aa:List (Addr×Obj)}{σ:St}{H:Hp}{s:Shared}{a:Addr}{y:V}{o:Option V}(I:Inv X aa σ H s)(g:iU H a y o):s.TypeIs (.ref a) "dict" := by
 rcases g with ⟨aF,k,e,_,_⟩ | ⟨aF,k,b,e,_,_,_⟩
 ·obtain ⟨_,_,vs,_,dd⟩:=qx I.aY e;exact dd.typeIs
 ·obtain ⟨_,_,xs,_,dd⟩:=uB I.aY e;exact dd.typeIs
noncomputable def WG (td ty:TE):TE:=fun σ H Q=>td σ H λx H1=>ty σ H1 λy H2=>∃ a v,x=.ref a/\iU H2 a y (some v)/\Q v H2
noncomputable def WS (td ty tv:TE):TS:=λD σ H=>tv σ H λv H1=>td σ H1 λx H2=>ty σ H2 λy H3=>∃ a H4,x=.ref a/\OL H3 a y v H4/\D.nx σ H4
section
variable {X:Cx}{o i e value:Expr}{pos pos' Rx:Pos}{td ty tv:TE}
theorem MQ (hu:X.A.units + 1 < cLine)(ho:PE X o td)(hi:PE X i ty)(hs:Yp i):PE X (.Subscript o i pos) (WG td ty):=by intro aa s σ H Q I h;refine RB PySem.F.slot_dict_getitem.lookup hs (bu (ho aa s σ H _ I h) λu s1 ⟨x,H1,I1,rx,q1⟩=>bu (hi aa s1 σ H1 _ I1 q1) λiv s2 ⟨y,H2,I2,ry,a,v,ex,g,q2⟩=>?_);subst ex;obtain rfl:u=Value.ref a:=rx;exact ⟨uD I2 g,Oz hu I2 g ry λw' s3 I3 Pr=>⟨v,H2,I3,Pr,q2⟩⟩
theorem MO (hu:X.A.units + 1 < cLine)(ho:PE X o td)(hi:PE X i ty)(hv:PE X value tv)(hs:swapsWith value (some (.Subscript o i pos')) pos.line X.env=pure false) :
  PS X (.Assign [.Subscript o i pos'] value pos) (WS td ty tv):=by
 intro aa s σ H D I h;refine wpAny_Assign_Subscript (bu (hv aa s σ H _ I h) λr s1 ⟨v,H1,I1,rv,q1⟩=>bu (ho aa s1 σ H1 _ I1 q1) λu s2 ⟨x,H2,I2,rx,q2⟩=>bu (hi aa s2 σ H2 _ I2 q2) λiv s3 ⟨y,H3,I3,ry,a,H4,ex,g,q3⟩=>?_) hs;subst ex;obtain rfl:u=Value.ref a:=rx;exact Ox hu I3 g ry rv λs4 I4=>⟨σ,H4,I4,q3⟩
end
theorem uC {P:Program}{w:World}{H:Hp}(h:Heap)(hb:sysModules < h.objs.size):bK P w H (h.push { cls:=.type "dict", data:=.dict #[] }) h.objs.size (.dK []):=
 ⟨zb _,beq_eq_false_iff_ne.mpr (Ne.symm (zV hb)),[],.nil,Heap.DictOf.new h⟩
noncomputable def Ui:TE:=λ_ H Q=>∀ p,H p=none->Q (.ref p) (upd H p (.dK []))
section
variable {X:Cx}{pos:Pos}
theorem PU:PE X (.Dict [] [] pos) Ui:=λaa s σ H Q I h=>
 wpAny_Dict_empty ⟨.ref s.heap.objs.size,_,I.laid (a:=s.heap.objs.size) (o:=.dK []) (t':=s.toks) (λ_ _ q=>Heap.get?_push_of_some _ q) (zD _) (uC s.heap I.big),rfl,h _ (I.aY.fresh (zD _))⟩
end
noncomputable def vp:List (TE×TE)->St->Hp->(List (V×V)->Hp->Prop)->Prop
 | [],_,H,Q=>Q [] H
 | (tk,tv)::r,σ,H,Q=>tk σ H λx H1=>tv σ H1 λy H2=>vp r σ H2 λps H3=>Q ((x,y)::ps) H3
noncomputable abbrev VV:List (V×V)->List (Value×Value)->Prop:=Paired λp q=>RelV p.1 q.1/\RelV p.2 q.2
noncomputable def Zj (X:Cx)(pos:Pos)(keys:List (Option Expr))(values:List Expr)(Rw:List (TE×TE)):Prop:=
 ∀ (aa:List (Addr×Obj)) (s:Shared) (σ:St) (H:Hp) (Q:List (V×V)->Hp->Prop),Inv X aa σ H s->vp Rw σ H Q ->
  wpAny (model X.prog X.w) X.A (evalPairs (pairTrees keys values X.env pos)) (λvs s'=>∃ ps H',Inv X aa σ H' s'/\VV ps vs/\Q ps H') X.xe s
theorem R7 {X:Cx}{pos:Pos}:Zj X pos [] [] []:=λaa s σ H Q I h=>pairTrees_nil_walk ⟨[],H,I,.nil,h⟩
theorem PL {X:Cx}{pos:Pos}{k v:Expr}{ks:List (Option Expr)}{vs:List Expr}{tk tv:TE}{Rw:List (TE×TE)}(hk:PE X k tk)(hv:PE X v tv)(hr:Zj X pos ks vs Rw) :
  Zj X pos (some k::ks) (v::vs) ((tk,tv)::Rw):=λaa s σ H Q I h=>
 pairTrees_cons_walk (bu (hk aa s σ H _ I h) λu s1 ⟨x,H1,I1,rx,q1⟩=>bu (hv aa s1 σ H1 _ I1 q1) λw2 s2 ⟨y,H2,I2,ry,q2⟩=>
  bu (hr aa s2 σ H2 _ I2 q2) λws s3 ⟨ps,H3,I3,rel,q3⟩=>⟨(x,y)::ps,H3,I3,.cons ⟨rx,ry⟩ rel,q3⟩)
noncomputable def nN (aF more:List (Key×V)):List (Key×V):=more.foldl (λacc kv=>putK acc kv.1 kv.2) aF
theorem KV.merge:∀ {more:List (Key×V)}{rs:List (Key×Value)}{aF:List (Key×V)}{vs:List (Key×Value)},KV more rs->KV aF vs->KV (nN aF more) (merged vs rs):=by
 intro more rs aF vs r;unfold KV at r;induction r generalizing aF vs with
 | nil=>intro q;exact q
 | @cons p q ps qs h t ih=>
  intro r0;have e:KV (putK aF p.1 p.2) (stored vs q.1 q.2):=by
   have:=r0.put p.1 h.2;rw [<-h.1];exact this
  exact ih e
theorem iZ:∀ (more aF:List (Key×V)),(nN aF more).length<=aF.length + more.length
 | [],aF=>by show aF.length<=aF.length + 0;omega
 | p::r,aF=>by
  have h1:=iZ r (putK aF p.1 p.2);have h2:=eV aF p.1 p.2;show (nN (putK aF p.1 p.2) r).length<=_;rw [zX];omega
theorem oJ {P:Program}{w:World}:∀ {aF:List (Key×V)}{ws:List (Value×Value)},VV (aF.map λkv=>(kV kv.1,kv.2)) ws->∃ rs,Carries (aQ P w) ws rs/\KV aF rs
 | [],_,r=>by rw [yf] at r;cases r;exact ⟨[],True.intro,.nil⟩
 | p::aF,_,r=>by
  rw [zo] at r;cases r with
  | @cons a b as bs h t=>
   obtain ⟨rs,c,q⟩:=oJ (P:=P) (w:=w) t;obtain ⟨b1,b2⟩:=b;exact ⟨(p.1,b2)::rs,⟨qh h.1,rfl,c⟩,.cons ⟨rfl,h.2⟩ q⟩
noncomputable def WE (Rw:List (TE×TE)):TE:=fun σ H Q=>∀ p,H p=none->vp Rw σ (upd H p (.dK [])) λps H2=>H2 p=some (.dK [])/\∃ aF:List (Key×V),ps=aF.map (λkv=>(kV kv.1,kv.2))/\aF.length<=15/\Q (.ref p) (upd H2 p (.dK (nN [] aF)))
theorem Se {X:Cx}{pos:Pos}{keys:List (Option Expr)}{values:List Expr}{Rw:List (TE×TE)}(h:Zj X pos keys values Rw)(fJ:keys.all (·.isSome)=true)(hl:keys.length=values.length)(h0:keys≠[])
  (h15:keys.length<=15):PE X (.Dict keys values pos) (WE Rw):=by
 intro aa s σ H Q I q;have hn:=I.aY.fresh (zD s.heap.objs.size);have I1:=I.laid (a:=s.heap.objs.size) (o:=.dK []) (h':=s.heap.push { cls:=.type "dict", data:=.dict #[] }) (t':=s.toks) (λ_ _ q=>Heap.get?_push_of_some _ q) (zD _) (uC s.heap I.big);refine wpAny_Dict_walk (knd:=aQ X.prog X.w) fJ hl h0 h15 (bu (h aa _ σ _ _ I1 (q _ hn)) λws s2 ⟨ps,H2,I2,rel,e,aF,ep,lk,q2⟩=>?_);subst ep;obtain ⟨rs,c,rk⟩:=oJ (P:=X.prog) (w:=X.w) rel;obtain ⟨z,hd,vs0,r0,dd⟩:=TY I2.aY e;cases r0;refine ⟨rs,c,dd,λh' VM hs=>⟨.ref s.heap.objs.size,_,?_,rfl,q2⟩⟩;have hz:(nN [] aF).length<=sizeLine:=by
  have h1:=iZ aF [];rw [yI] at h1;rw [sizeLine_eq];omega
 have he:∃ q,h'.get? s.heap.objs.size=some q:=let ⟨q,_,_,hq,_⟩:=VM;⟨q,hq⟩;exact rW I2 (by rw [e];exact True.intro) hs he (QL hz hd (rk.merge .nil) VM)
section
variable {X:Cx}{aa:List (Addr×Obj)}{σ:St}{H:Hp}{s:Shared}{a:Addr}{y d:V}{u r:Value}{o:Option V}{A:Around}{E:Value->Shared->Prop}
end
section
variable {X:Cx}{o e f:Expr}{apos dm:Pos}{td ty tx:TE}
end
section
variable {X:Cx}{aa:List (Addr×Obj)}{σ:St}{H:Hp}{s:Shared}{a:Addr}{aF:List (Key×V)}{A:Around}{E:Value->Shared->Prop}
end
section
variable {X:Cx}{aa:List (Addr×Obj)}{σ:St}{H:Hp}{s:Shared}{a:Addr}{y:V}{u:Value}{A:Around}{E:Value->Shared->Prop}
end
end L2
namespace HT
open PySem PyProof.Rows
section
open PySem.SeqAt
open PySem.AutoSeq1 (wpAny_loadPart')
open PySem.MeetsSeq PySem.MeetsSeq2 PySem.MeetsSeq3
end
section
variable {prog:Program}{w:World}{A:Around}{E:Value->Shared->Prop}{s:Shared}
noncomputable def u6 (n d:Nat):Option Int->Nat
 | none=>d
 | some v=>if v < 0 then (v + (n:Int)).toNat else min v.toNat n
theorem MI (n d k:Nat):u6 n d (some (k:Int))=min k n:=by show (if (k:Int) < 0 then ((k:Int) + (n:Int)).toNat else min (k:Int).toNat n)=min k n;rw [if_neg (by omega),zy]
end
end HT
namespace L2
open PySem PySem.Spec PyProof.Rows
noncomputable abbrev TO:=St->Hp->(Option Int->Hp->Prop)->Prop
noncomputable def PO (X:Cx)(e:Option Expr)(t:TO):Prop:=
 ∀ (aa:List (Addr×Obj)) (s:Shared) (σ:St) (H:Hp) (Q:Option Int->Hp->Prop),Inv X aa σ H s->t σ H Q ->
  wpAny (model X.prog X.w) X.A (evalPart e X.env) (λu s'=>∃ o H',Inv X aa σ H' s'/\IsPart u o/\Q o H') X.xe s
noncomputable def iG:TO:=λ_ H Q=>Q none H
noncomputable def kY (t:TE):TO:=fun σ H Q=>t σ H λx H1=>∃ i,x=.int i/\Q (some i) H1
section
variable {X:Cx}{e:Expr}{te:TE}{lo hi:Option Expr}{tl th:TO} {pos p2:Pos}
theorem qZ (h:PE X e te):PO X (some e) (kY te):=by intro aa s σ H Q I hw;rw [evalPart_some];refine bu (h aa s σ H _ I hw) λu s1 ⟨x,H1,I1,r1,q1⟩=>?_;obtain ⟨i,rfl,q⟩:=q1;obtain ⟨t,rfl⟩:=r1;exact ⟨some i,H1,I1,.int i t,q⟩
noncomputable def SlR (X:Cx)(r:V->Option Int->Option Int->Hp->VK->Prop):Prop:=
 ∀ (aa:List (Addr×Obj)) (s:Shared) (σ:St) (H:Hp) (x:V) (v vl vu:Value) (lo hi:Option Int) (sl:Addr) (Q:VK),Inv X aa σ H s->RelV x v->s.heap.IsSliceOf sl vl vu .none->IsPart vl lo->IsPart vu hi->r x lo hi H Q ->
  ∃ T id,typeLookup (.type T) "__getitem__" = pure (some (.builtin id))/\s.TypeIs v T/\wpAny (model X.prog X.w) X.A (getItem v (.ref sl)) (EP X aa σ Q) X.xe s
noncomputable def Ue (r:V->Option Int->Option Int->Hp->VK->Prop)(te:TE)(tl th:TO):TE:=fun σ H Q=>te σ H λx H1=>tl σ H1 λl H2=>th σ H2 λu H3=>r x l u H3 Q
theorem PN {r:V->Option Int->Option Int->Hp->VK->Prop}(hr:SlR X r)(he:PE X e te)(hl:PO X lo tl)(hu:PO X hi th):PE X (.Subscript e (.Slice lo hi none p2) pos) (Ue r te tl th):=by intro aa s σ H Q I h;refine Subscript_ (bu (he aa s σ H _ I h) λv s1 ⟨x,H1,I1,r1,q1⟩=>?_);refine wpAny_Slice (bu (hl aa s1 σ H1 _ I1 q1) λvl s2 ⟨l,H2,I2,pl,q2⟩=>bu (hu aa s2 σ H2 _ I2 q2) λvu s3 ⟨u,H3,I3,pu,q3⟩=>?_);rw [evalPart_none];refine wpAny_pure ?_;have I4:Inv X aa σ H3 { s3 with heap:=s3.heap.push { cls:=.type "slice", data:=.fields #[vl,vu,.none] } }:=I3.kept (t':=s3.toks) λb ob q=>Heap.get?_push_of_some _ q;obtain ⟨T,id,hT,ht,hg⟩:=hr aa { s3 with heap:=s3.heap.push { cls:=.type "slice", data:=.fields #[vl,vu,.none] } } σ H3 x v vl vu l u s3.heap.objs.size Q I4 r1 (Heap.IsSliceOf.new ..) pl pu q3;show wpAny (model X.prog X.w) X.A (subscriptTail e (.Slice lo hi none p2) v (.ref s3.heap.objs.size)) (EP X aa σ Q) X.xe { s3 with heap:=s3.heap.push { cls:=.type "slice", data:=.fields #[vl,vu,.none] } };exact tail_any (ops:=[.ref s3.heap.objs.size,v]) ht hT hg (by with_unfolding_all rfl)
noncomputable def Mh (xs:List V)(lo hi:Option Int):List V:=(xs.drop (HT.u6 xs.length 0 lo)).take (HT.u6 xs.length xs.length hi - HT.u6 xs.length 0 lo)
theorem uE (xs:List V)(lo hi:Option Int):(Mh xs lo hi).length<=xs.length:=by unfold Mh;rw [zZ,xO];omega
end
noncomputable def Qm (n:Nat)(i:Int):Option Nat:=if 0<=i then (if i < n then some i.toNat else none) else if -(n:Int)<=i then some (i + n).toNat else none
noncomputable def mD {α:Type}(xs:List α)(i:Int):Option α:=(Qm xs.length i).bind λj=>xs[j]?
theorem M5 {n:Nat}{i:Int}{j:Nat}(h:Qm n i=some j):seqIndex? i n=some j/\j < n/\-(n:Int)<=i/\i < n:=by
 unfold Qm at h;by_cases h0:0<=i
 ·rw [if_pos h0] at h;by_cases h1:i < n
  ·rw [if_pos h1] at h;have e:i.toNat=j:=Option.some.inj h;exact ⟨by rw [seqIndex_of h0 h1,e],by omega,by omega,h1⟩
  ·rw [if_neg h1] at h;cases h
 ·rw [if_neg h0] at h;by_cases h1:-(n:Int)<=i
  ·rw [if_pos h1] at h;have e:(i + n).toNat=j:=Option.some.inj h;exact ⟨by rw [seqIndex_neg (by omega) h1,e],by omega,h1,by omega⟩
  ·rw [if_neg h1] at h;cases h
theorem Nl {α:Type}{xs:List α}{i:Int}{v:α}(h:mD xs i=some v):∃ j,seqIndex? i xs.length=some j/\xs[j]?=some v/\j < xs.length/\-(xs.length:Int)<=i/\i < xs.length:=by
 unfold mD at h;cases e:Qm xs.length i with
 | none=>rw [e] at h;cases h
 | some j=>
  rw [e] at h;obtain ⟨h1,h2,h3,h4⟩:=M5 e;exact ⟨j,h1,h,h2,h3,h4⟩
theorem wI {α:Type}{xs:List α}{j:Nat}{v:α}(h:xs[j]?=some v):mD xs (j:Int)=some v:=by
 have hj:j < xs.length:=(zC.mp h).1;have e:Qm xs.length (j:Int)=some j:=by
  unfold Qm;rw [if_pos (by omega),if_pos (by omega)];simp
 unfold mD;rw [e];exact h
noncomputable def S2 (b:Expr):Prop:=∀ o i,subscripted b false o i=operate [o,i] (getItem o i)
noncomputable def Ys (X:Cx)(r:R2):Prop:=
 ∀ (value slice:Expr) (aa:List (Addr×Obj)) (s:Shared) (σ:St) (H:Hp) (x y:V) (v u:Value) (Q:VK),Inv X aa σ H s->RelV x v->RelV y u->r x y H Q ->
  subscripted slice false v u=operate [v,u] (getItem v u)->wpAny (model X.prog X.w) X.A (subscriptTail value slice v u) (EP X aa σ Q) X.xe s
noncomputable def Zk (X:Cx)(id:String)(r:V->List V->Hp->VK->Prop):Prop:=
 ∀ (aa:List (Addr×Obj)) (s:Shared) (σ:St) (H:Hp) (x:V) (xs:List V) (v:Value) (us:List Value) (Q:VK),Inv X aa σ H s->RelV x v->Vals xs us->r x xs H Q ->
  wpAny (model X.prog X.w) X.A (call (.builtin id) (v::us)) (EP X aa σ Q) X.xe s
section
variable {X:Cx}{a b:Expr}{ta tb:TE}{pos:Pos}
theorem wE {r:R2}(hr:Ys X r)(ha:PE X a ta)(hb:PE X b tb)(hs:S2 b):PE X (.Subscript a b pos) (Ra r ta tb):=by intro aa s σ H Q I h;exact Subscript_ (VR ha hb I h λv u s2 x y H2 I2 rx ry q=>hr a b aa s2 σ H2 x y v u Q I2 rx ry q (hs _ _))
noncomputable def tH (K:PySem.W.Frag):R2:=λx y H Q=>∃ p xs i v,x=.ref p/\y=.int i/\aL K H p xs/\mD xs i=some v/\Q v H
noncomputable def tG (K:PySem.W.Frag):R2:=λx y H Q=>∃ p xs i v,x=.ref p/\y=.int i/\cD K H p xs/\mD xs i=some v/\Q v H
theorem Sv:Ys X (tH X.K):=by
 intro value slice aa s σ H x y v u Q I rx ry h hs;obtain ⟨p,xs,i,z,rfl,rfl,hq,he,q⟩:=h;cases rx;obtain ⟨t,rfl⟩:=ry;obtain ⟨aC,r,pl,hz⟩:=I.list hq;obtain ⟨j,h1,h2,h3,h4,h5⟩:=Nl he;obtain ⟨w,ew,Pr⟩:=r.get h2;have hl:=r.length;have hn:=nR;have fin:EP X aa σ Q w s:=⟨z,H,I,Pr,q⟩;by_cases h0:0<=i
 ·have hj:i.toNat=j:=by
   rw [seqIndex_of h0 h5] at h1;exact Option.some.inj h1
  exact item_listR pl.isList h0 (by omega) (by rw [hj];simpa using ew) fin hs
 ·have hj:(i + (aC.toArray.size:Int)).toNat=j:=by
   rw [seqIndex_neg (by omega) h4] at h1;rw [zQ,<- hl];exact Option.some.inj h1
  exact subscriptTail_builtinR (x:=w) pl.isList.typeIs slot_list_getitem.lookup
   (wpAny_getItem_list_neg (Q:=λr s'=>r=w/\EP X aa σ Q r s') pl.isList (by omega) (by rw [zQ] <;> omega) (by omega) (by rw [hj];simpa using ew) ⟨rfl,fin⟩) hs
theorem U7:Ys X (tG X.K):=by
 intro value slice aa s σ H x y v u Q I rx ry h hs;obtain ⟨p,xs,i,z,rfl,rfl,hq,he,q⟩:=h;cases rx;obtain ⟨t,rfl⟩:=ry;obtain ⟨aC,r,pl,hz⟩:=I.tuple hq;obtain ⟨j,h1,h2,h3,h4,h5⟩:=Nl he;obtain ⟨w,ew,Pr⟩:=r.get h2;have hl:=r.length;have hn:=nR;have fin:EP X aa σ Q w s:=⟨z,H,I,Pr,q⟩;exact subscriptTail_builtinR (x:=w) pl.typeIs slot_tuple_getitem.lookup
  (getItem_tuple (j:=j) (Q:=λr s'=>r=w/\EP X aa σ Q r s') pl (by omega) (by omega) (by rw [zQ,<- hl];exact h1) (by simpa using ew) ⟨rfl,fin⟩) hs
theorem vW (aC:List Value)(n j:Nat)(u:Value):Obj.mapSeq (·.setIfInBounds j u) { cls:=.type "list", data:=.seq aC.toArray n }={ cls:=.type "list", data:=.seq (aC.set j u).toArray n }:=by simp [Obj.mapSeq]
theorem Inv.lst {aa:List (Addr×Obj)}{σ:St}{H:Hp}{s:Shared}{p:Addr}{xs:List V}(I:Inv X aa σ H s)(h:H p=some (.lst xs)) :
  ∃ (aC:List Value) (n:Nat),Vals xs aC/\s.heap.get? p=some { cls:=.type "list", data:=.seq aC.toArray n }/\xs.length<=sizeLine:=by
 obtain ⟨z,aC,n,r,e⟩:=I.aY p _ h;exact ⟨aC,n,r,e,z⟩
theorem Inv.UX {aa:List (Addr×Obj)}{σ:St}{H:Hp}{s:Shared}{p:Addr}{xs ys:List V}{aC its':List Value}{n n':Nat}{f:Obj->Obj}(I:Inv X aa σ H s)(h:H p=some (.lst xs))
  (ho:s.heap.get? p=some { cls:=.type "list", data:=.seq aC.toArray n }) (hf:f { cls:=.type "list", data:=.seq aC.toArray n }={ cls:=.type "list", data:=.seq its'.toArray n' }) (r:Vals ys its') (hz:ys.length<=sizeLine) (t:Nat) :
  Inv X aa σ (upd H p (.lst ys)) { s with heap:=s.heap.update p f,toks:=t }:=by
 have e:(s.heap.update p f).get? p=some { cls:=.type "list", data:=.seq its'.toArray n' }:=by
  rw [Heap.get?_update_self f ho (by rw [hf] <;> rfl),hf]
 refine I.write (x:=p) (e:=p) (by rw [h];trivial) (.inl rfl) (λb u hb q=>(Heap.get?_update_other _ _ (Ne.symm hb)).trans q) ⟨_,e⟩ ?_;exact ⟨hz,its',n',r,e⟩
noncomputable def nv:V->V->V->Hp->(Hp->Prop)->Prop:=λo i v H Q=>∃ p xs k j,o=.ref p/\i=.int k/\H p=some (.lst xs)/\Qm xs.length k=some j/\Q (upd H p (.lst (xs.set j v)))
theorem set_list:VW X nv:=by
 intro aa s σ H o i v ov iv u Q I ro ri rv h;obtain ⟨p,xs,k,j,rfl,rfl,hp,hj,q⟩:=h;cases ro;obtain ⟨t,rfl⟩:=ri;obtain ⟨aC,n,r,ho,hz⟩:=I.lst hp;obtain ⟨h1,h2,h3,h4⟩:=M5 hj;have hl:=r.length;have hn:=nR;have I':Inv X aa σ (upd H p (.lst (xs.set j v))) { s with heap:=s.heap.update p (Obj.mapSeq (·.setIfInBounds j u)) }:=
  I.UX hp ho (vW aC n j u) (r.set rv j) (by rw [yc];exact hz) s.toks
 by_cases h0:0<=k
 ·have hk:k.toNat=j:=by
   rw [seqIndex_of h0 h4] at h1;exact Option.some.inj h1
  exact PySem.W.ki_setAt ho h0 (by omega) (by rw [zQ,<- hl];exact h4) (by rw [hk];exact ⟨_,I',q⟩)
 ·have hk:(k + (aC.toArray.size:Int)).toNat=j:=by
   rw [seqIndex_neg (by omega) h3] at h1;rw [zQ,<- hl];exact Option.some.inj h1
  exact PySem.W.ki_setBack ho (by omega) (by rw [zQ,<- hl];exact h3) (by omega) (by rw [hk];exact ⟨_,I',q⟩)
theorem qW (lo hi:Option Int)(n:Nat):(sliceBounds lo hi none n).1=((HT.u6 n 0 lo:Nat):Int)/\(sliceBounds lo hi none n).2.1=((HT.u6 n n hi:Nat):Int)/\(sliceBounds lo hi none n).2.2=1:=by
 refine ⟨?_,?_,rfl⟩
 ·cases lo with
  | none=>simp [sliceBounds,HT.u6]
  | some i=>
   simp only [sliceBounds,HT.u6,Option.getD_none,show (1:Int) > 0 by decide,if_true];by_cases h:i < 0
   ·simp only [h,if_true] <;> omega
   ·simp only [h,if_false] <;> omega
 ·cases hi with
  | none=>simp [sliceBounds,HT.u6]
  | some i=>
   simp only [sliceBounds,HT.u6,Option.getD_none,show (1:Int) > 0 by decide,if_true];by_cases h:i < 0
   ·simp only [h,if_true] <;> omega
   ·simp only [h,if_false] <;> omega
theorem o4 (aC:List Value)(lo hi:Option Int):slicePick aC.toArray lo hi none=((aC.drop (HT.u6 aC.length 0 lo)).take (HT.u6 aC.length aC.length hi - HT.u6 aC.length 0 lo)).toArray:=by obtain ⟨h1,h2,h3⟩:=qW lo hi aC.toArray.size;unfold slicePick;rw [h1,h2,h3];simp only [sliceRange_one,pick_run,zQ] <;> rfl
noncomputable def WU (K:PySem.W.Frag):V->Option Int->Option Int->Hp->VK->Prop:=λx lo hi H Q=>∃ a xs,x=.ref a/\aL K H a xs/\∀ p,H p=none->Q (.ref p) (upd H p (.lst (Mh xs lo hi)))
theorem RO:SlR X (WU X.K):=by intro aa s σ H x v vl vu lo hi sl Q I rx hs pl pu h;obtain ⟨a,xs,rfl,hx,q⟩:=h;cases rx;obtain ⟨aC,r,ht,hz⟩:=I.list hx;have hlen:=r.length;refine ⟨"list", _,slot_list_getitem.lookup,ht.isList.typeIs,?_⟩;refine wpAny_getItem_list_slice ht.isList hs pl pu .none (by simp) ?_ (by rw [zQ] <;> omega);rw [o4,<- hlen];refine ⟨.ref s.heap.objs.size,_,I.laid (t':=s.toks) (o:=.lst (Mh xs lo hi)) (λb ob q=>Heap.get?_push_of_some _ q) (zD _) ?_,rfl,q _ (I.aY.fresh (zD _))⟩;exact ⟨yB (uE xs lo hi) hz,_,0,(r.drop (HT.u6 xs.length 0 lo)).take (HT.u6 xs.length xs.length hi - HT.u6 xs.length 0 lo),Heap.get?_push_size _ rfl⟩
noncomputable def dB:V->Bool
 | .cI=>true
 | .bl _=>true
 | .int _=>true
 | .str _=>true
 | _=>false
noncomputable def Nc:V->V->Bool
 | .cI,.cI=>true
 | .bl a,.bl b=>a == b
 | .bl a,.int b=>(if a then 1 else 0) == b
 | .int a,.bl b=>a == (if b then 1 else 0)
 | .int a,.int b=>a == b
 | .str a,.str b=>a == b
 | _,_=>false
theorem QK {A:Around}{s:Shared}{y x:V}{u v:Value}(ry:RelV y u)(rx:RelV x v)(fy:dB y=true)(fx:dB x=true):SeqAt.EqAt A s u v (Nc y x):=by
 cases y with
 | cI=>
  cases ry;cases x with
  | cI=>cases rx;exact SeqAt.EqAt.same _
  | bl b=>cases rx;exact SeqAt.EqAt.none_bool b
  | int b=>obtain ⟨t,rfl⟩:=rx;exact SeqAt.EqAt.none_int b t
  | str b=>obtain ⟨t,rfl⟩:=rx;exact SeqAt.EqAt.none_str b t
  | _=>exact absurd (show false=true from fx) zO
 | bl a=>
  cases ry;cases x with
  | cI=>cases rx;exact SeqAt.EqAt.bool_none a
  | bl b=>cases rx;exact SeqAt.EqAt.bool_bool a b
  | int b=>obtain ⟨t,rfl⟩:=rx;exact SeqAt.EqAt.bool_int a b t
  | str b=>obtain ⟨t,rfl⟩:=rx;exact SeqAt.EqAt.bool_str a b t
  | _=>exact absurd (show false=true from fx) zO
 | int a=>
  obtain ⟨t',rfl⟩:=ry;cases x with
  | cI=>cases rx;exact SeqAt.EqAt.int_none a t'
  | bl b=>cases rx;exact SeqAt.EqAt.int_bool a t' b
  | int b=>obtain ⟨t,rfl⟩:=rx;exact SeqAt.EqAt.int_int a t' b t
  | str b=>obtain ⟨t,rfl⟩:=rx;exact SeqAt.EqAt.int_str a t' b t
  | _=>exact absurd (show false=true from fx) zO
 | str a=>
  obtain ⟨t',rfl⟩:=ry;cases x with
  | cI=>cases rx;exact SeqAt.EqAt.str_none a t'
  | bl b=>cases rx;exact SeqAt.EqAt.str_bool a t' b
  | int b=>obtain ⟨t,rfl⟩:=rx;exact SeqAt.EqAt.str_int a t' b t
  | str b=>obtain ⟨t,rfl⟩:=rx;exact SeqAt.EqAt.str_str a t' b t
  | _=>exact absurd (show false=true from fx) zO
 | _=>exact absurd (show false=true from fy) zO
noncomputable def Mg (x:V)(u:Value):Bool:=match u with
 | .none=>Nc .cI x
 | .bool b=>Nc (.bl b) x
 | .int i _=>Nc (.int i) x
 | .str z _=>Nc (.str z) x
 | _=>false
theorem QJ {x y:V}{u:Value}(r:RelV y u)(f:dB y=true):Mg x u=Nc y x:=by
 cases y with
 | cI=>cases r;rfl
 | bl b=>cases r;rfl
 | int i=>obtain ⟨t,rfl⟩:=r;rfl
 | str z=>obtain ⟨t,rfl⟩:=r;rfl
 | _=>exact absurd (show false=true from f) zO
theorem jV {x:V}:∀ {xs:List V}{us:List Value},Vals xs us->xs.all dB=true->us.any (Mg x)=xs.any λy=>Nc y x
 | _,_,.nil,_=>rfl
 | y::xs,u::us,.cons r t,f=>by
  rw [List.all_cons,yz] at f;rw [xQ,xQ,QJ r f.1,jV t f.2]
theorem ia {A:Around}{s:Shared}{x:V}{v:Value}(rx:RelV x v)(fx:dB x=true):∀ {xs:List V}{us:List Value},Vals xs us->xs.all dB=true->∀ u∈us,SeqAt.EqAt A s u v (Mg x u)
 | _,_,.nil,_=>λu hu=>by cases hu
 | y::xs,u::us,.cons r t,f=>λu' hu=>by
  rw [List.all_cons,yz] at f;rcases zH.mp hu with rfl | hu
  ·rw [QJ r f.1];exact QK r rx f.1 fx
  ·exact ia rx fx t f.2 u' hu
noncomputable def sL (x:V)(xs:List V):Bool:=xs.any λy=>Nc y x
noncomputable def YA (K:PySem.W.Frag)(neg:Bool):R2:=λx y H Q=>∃ p xs,y=.ref p/\(aL K H p xs\/cD K H p xs)/\dB x=true/\xs.all dB=true/\Q (.bl (if neg then !sL x xs else sL x xs)) H
theorem NZ:gO X (compareOp .In) (YA X.K false):=by
 intro aa s σ H x y v u Q I rx ry h;obtain ⟨p,xs,rfl,hq,fx,fs,q⟩:=h;cases ry;rcases hq with hq | hq
 ·obtain ⟨aC,r,pl,hz⟩:=I.list hq;refine SeqAt.in_listAt (Mg x) pl.isList (λw hw=>ia rx fx r fs w (by simpa using hw)) ⟨.bl _,H,I,rfl,?_⟩;rw [show aC.toArray.any (Mg x)=aC.any (Mg x) by simp,jV r fs];exact q
 ·obtain ⟨aC,r,pl,hz⟩:=I.tuple hq;refine SeqAt.in_tupleAt (Mg x) pl (λw hw=>ia rx fx r fs w (by simpa using hw)) ⟨.bl _,H,I,rfl,?_⟩;rw [show aC.toArray.any (Mg x)=aC.any (Mg x) by simp,jV r fs];exact q
theorem dD:gO X (compareOp .NotIn) (YA X.K true):=by
 intro aa s σ H x y v u Q I rx ry h;obtain ⟨p,xs,rfl,hq,fx,fs,q⟩:=h;cases ry;rcases hq with hq | hq
 ·obtain ⟨aC,r,pl,hz⟩:=I.list hq;refine SeqAt.notIn_listAt (Mg x) pl.isList (λw hw=>ia rx fx r fs w (by simpa using hw)) ⟨.bl _,H,I,rfl,?_⟩;rw [show aC.toArray.any (Mg x)=aC.any (Mg x) by simp,jV r fs];exact q
 ·obtain ⟨aC,r,pl,hz⟩:=I.tuple hq;refine SeqAt.notIn_tupleAt (Mg x) pl (λw hw=>ia rx fx r fs w (by simpa using hw)) ⟨.bl _,H,I,rfl,?_⟩;rw [show aC.toArray.any (Mg x)=aC.any (Mg x) by simp,jV r fs];exact q
theorem rZ:dZ X (.builtin "len") (λxs H Q=>∃ p ys,xs=[.ref p]/\(aL X.K H p ys\/cD X.K H p ys)/\Q (.int ys.length) H):=by
 intro aa s σ H xs us Q I r h;obtain ⟨p,ys,rfl,hq,q⟩:=h;obtain ⟨u,rfl,rx⟩:=vals1 r;cases rx;have hn:=nR;rcases hq with hq | hq
 ·obtain ⟨aC,r',pl,hz⟩:=I.list hq;have hlen:=r'.length;exact Calls.call_len_list pl.isList (by simp only [zQ] <;> omega) ⟨.int ys.length,H,I.tok _,⟨s.toks + 1,by rw [zQ,hlen]⟩,q⟩
 ·obtain ⟨aC,r',pl,hz⟩:=I.tuple hq;have hlen:=r'.length;exact len_tuple pl (by simp only [zQ] <;> omega) ⟨.int ys.length,H,I.tok _,⟨s.toks + 1,by rw [zQ,hlen]⟩,q⟩
theorem rY:dZ X (.type "list") (λxs H Q=>∃ p ys,xs=[.ref p]/\(aL X.K H p ys\/cD X.K H p ys)/\∀ l,H l=none->Q (.ref l) (upd H l (.lst ys))):=by
 intro aa s σ H xs us Q I r h;obtain ⟨p,ys,rfl,hq,q⟩:=h;obtain ⟨u,rfl,rx⟩:=vals1 r;cases rx;have fin:∀ (aC:List Value),Vals ys aC->ys.length<=sizeLine->∀ (h':Heap) (c':Nat),(∀ b o',s.heap.get? b=some o'->h'.get? b=some o') ->
   h'.get? s.heap.objs.size=some { cls:=.type "list", dict:=none,data:=.seq aC.toArray c',slots:=#[] }->EP X aa σ Q (.ref s.heap.objs.size) { s with heap:=h' }:=λaC r' hz h' c' kp e=>
  ⟨.ref s.heap.objs.size,_,I.laid (t':=s.toks) kp (zD _) (show bK X.prog X.w _ h' _ (.lst ys) from ⟨hz,aC,c',r',e⟩),rfl,q _ (I.aY.fresh (zD _))⟩
 rcases hq with hq | hq
 ·obtain ⟨aC,r',pl,hz⟩:=I.list hq;have hlen:=r'.length;obtain ⟨o,ho,hc,n,hd⟩:=pl.isList;exact call_list_seq p (.inl rfl) ho hc hd (λh' c' kp e=>fin aC r' hz h' c' kp e) (by simp only [zQ] <;> omega)
 ·obtain ⟨aC,r',pl,hz⟩:=I.tuple hq;have hlen:=r'.length;obtain ⟨o,ho,hc,n,hd⟩:=pl;exact call_list_seq p (.inr rfl) ho hc hd (λh' c' kp e=>fin aC r' hz h' c' kp e) (by simp only [zQ] <;> omega)
theorem dc:dZ X (.type "tuple") (λxs H Q=>∃ p ys,xs=[.ref p]/\((aL X.K H p ys/\∀ l,H l=none->Q (.ref l) (upd H l (.tup ys)))\/(cD X.K H p ys/\Q (.ref p) H))):=by
 intro aa s σ H xs us Q I r h;obtain ⟨p,ys,rfl,h⟩:=h;obtain ⟨u,rfl,rx⟩:=vals1 r;cases rx;rcases h with ⟨hq,q⟩ | ⟨hq,q⟩
 ·obtain ⟨aC,r',pl,hz⟩:=I.list hq;have hlen:=r'.length;refine call_tuple_list pl.isList (λh' kp=>?_) (by simp only [zQ] <;> omega);have I1:Inv X aa σ H { s with heap:=h' }:=I.kept (t':=s.toks) kp;have I2:Inv X aa σ (upd H h'.objs.size (.tup ys)) { s with heap:=h'.push { cls:=.type "tuple", data:=.seq aC.toArray } }:=
   I1.laid (t':=s.toks) (λb o e=>Heap.get?_push_of_some _ e) (zD _) (show bK X.prog X.w _ _ _ (.tup ys) from ⟨⟨hz,tV⟩,aC,r',IsTup.new _ _⟩)
  exact ⟨.ref h'.objs.size,_,I2,rfl,q _ (I1.aY.fresh (zD _))⟩
 ·obtain ⟨aC,r',pl,hz⟩:=I.tuple hq;exact call_tuple_same pl ⟨.ref p,H,I,rfl,q⟩
noncomputable def tyV (K:PySem.W.Frag)(T:String)(x:V)(H:Hp):Prop:=match x with
 | .str _=>T = "str"
 | .int _=>T = "int"
 | .ref p=>(T = "list" /\ ∃ xs,aL K H p xs)\/(T = "tuple" /\ ((∃ o,K.lookup p=some o/\o.cls=.type "tuple" /\ o.dict=none)\/∃ xs,H p=some (.tup xs))) \/
   (T = "dict" /\ ((∃ aF,H p=some (.dK aF))\/∃ aF,H p=some (.dT aF)))\/(T = "set" /\ ∃ S n,H p=some (.set S n))
 | _=>False
theorem T9 {aa:List (Addr×Obj)}{σ:St}{H:Hp}{s:Shared}{T:String}{x:V}{v:Value}(I:Inv X aa σ H s)(r:RelV x v)(ty:tyV X.K T x H) :
  s.TypeIs v T/\∀ a,v=.ref a->∃ ob,s.heap.get? a=some ob/\ob.dict=none:=by
 cases x with
 | str z=>
  obtain ⟨t,rfl⟩:=r;cases (show T = "str" from ty);exact ⟨typeIs_str s z t,λ_ e=>nomatch e⟩
 | int i=>
  obtain ⟨t,rfl⟩:=r;cases (show T = "int" from ty);exact ⟨typeIs_int s i t,λ_ e=>nomatch e⟩
 | ref p=>
  cases r;rcases ty with ⟨rfl,xs,hq⟩ | ⟨rfl,⟨o,hk,hc,hd⟩ | ⟨xs,hk⟩⟩ | ⟨rfl,hk⟩ | ⟨rfl,S,n,hk⟩
  ·obtain ⟨aC,_,pl,_⟩:=I.list hq;refine ⟨pl.isList.typeIs,λa e=>?_⟩;cases e;obtain ⟨o,n,e,c,hd,_⟩:=pl;exact ⟨o,e,hd⟩
  ·refine ⟨⟨o,I.jM p o hk,hc⟩,λa e=>?_⟩;cases e;exact ⟨o,I.jM _ o hk,hd⟩
  ·obtain ⟨nb,_,_,o,e,c,_⟩:=I.aY p _ hk;exact ⟨⟨o,e,c⟩,λa z=>by cases z;exact ⟨o,e,nb.2 o e⟩⟩
  ·have z:∃ o,s.heap.get? p=some o/\o.ExactDict:=by
    rcases hk with ⟨aF,hk⟩ | ⟨aF,hk⟩
    ·obtain ⟨_,_,_,_,o,_,_,e,ex,_⟩:=I.aY p _ hk;exact ⟨o,e,ex⟩
    ·obtain ⟨_,_,_,_,o,_,_,e,ex,_⟩:=I.aY p _ hk;exact ⟨o,e,ex⟩
   obtain ⟨o,e,ex⟩:=z;refine ⟨⟨o,e,ex.1⟩,λa e2=>?_⟩;cases e2;exact ⟨o,e,ex.2.1⟩
  ·obtain ⟨o,_,_,_,e,ex,_⟩:=I.aY p _ hk;refine ⟨⟨o,e,ex.1⟩,λa e2=>?_⟩;cases e2;exact ⟨o,e,ex.2.1⟩
 | _=>exact False.elim ty
noncomputable def Uj (K:PySem.W.Frag)(T:String)(r:V->List V->Hp->VK->Prop)(to:TE)(t:TA):TE:=fun σ H Q=>to σ H λx H1=>tyV K T x H1/\t σ H1 λxs H2=>r x xs H2 Q
variable {o e:Expr}{es:List Expr}{to:TE}{t:TA}{name:Str}{apos dm:Pos}{T id:String}{r:V->List V->Hp->VK->Prop}
theorem gB (pa:PlainAttrs T)(slot:Slot T name id)(Xx:typeOf (.builtin id)=pure (.type "method_descriptor"))(hm:Zk X id r)(ho:PE X o to)(ha:PA X (e::es) t)
  (Qz:attributeBase o name X.env (eval o X.env)=eval o X.env:=by rfl)
  (Vr:((backTo dm (starEach (e::es) X.env)).all (λx=>!x.1) && (backToKw dm (keywordEach [] X.env)).all (λx=>x.1.isSome)
   && decide ((e::es).length + ([]:List Keyword).length + (if ([]:List Keyword).isEmpty then 0 else 1) < 30))=true:=by rfl)
  (Qu:(apos.endLine == dm.line)=true:=by rfl) (hs:starEach (e::es) X.env=(false,eval e X.env)::starEach es X.env:=by rfl) (LY:(backTo dm (starEach es X.env)).any (·.1)=false:=by rfl) :
  PE X (.Call (.Attribute o name apos) (e::es) [] dm) (Uj X.K T r to t):=by
 intro aa s σ H Q I h;refine wpAny_Call_method_late Qz Vr Qu rfl (bu (ho aa s σ H _ I h) λv s1 ⟨x,H1,I1,r1,ty,q1⟩=>?_);obtain ⟨h1,h2⟩:=T9 I1 r1 ty;refine ⟨T,id,pa,slot,Xx,h1,h2,?_⟩;have hA:=ha dm aa s1 σ H1 _ I1 q1;rw [hs] at hA ⊢;refine Calls.callWith_builtin (by show (false || (backTo dm (starEach es X.env)).any (·.1))=false;rw [LY] <;> rfl) (Calls.evalArgs_plain ?_);exact bu hA λus s2 ⟨vs,H2,I2,r2,q2⟩=>hm aa s2 σ H2 x vs v us Q I2 r1 r2 q2
/- xs.append(e),list.index on a Xg tuple .. are Zk facts of 06m -/
end
noncomputable def MtM (X:Cx)(id:String)(r:V->List V->Hp->VK->Prop):Prop:=
 ∀ (aa:List (Addr×Obj)) (s:Shared) (σ:St) (H:Hp) (x:V) (xs:List V) (v:Value) (us:List Value) (Q:VK),Inv X aa σ H s->RelV x v->Vals xs us->r x xs H Q ->
  wpAny (model X.prog X.w) X.A (call (.builtin id) (v::us)) (EP X aa σ Q) X.xe s
theorem Vals.one:∀ {x:V}{us:List Value},Vals [x] us->∃ u,us=[u]/\RelV x u
 | _,_,.cons r .nil=>⟨_,rfl,r⟩
theorem Vals.reverse {xs:List V}{us:List Value}(h:Vals xs us):Vals xs.reverse us.reverse:=by
 induction h with
 | nil=>exact .nil
 | cons r t ih=>rw [List.reverse_cons,List.reverse_cons];exact Vals.append ih (.cons r .nil)
section
variable {X:Cx}{aa:List (Addr×Obj)}{σ:St}{H:Hp}{s:Shared}{l b:Addr}{xs ys zs:List V}
theorem Inv.Sk {aC its':List Value}{n:Nat}{f:Array Value->Array Value}{t':Nat}(I:Inv X aa σ H s)(hH:H l=some (.lst xs))
  (e:s.heap.get? l=some { cls:=.type "list", data:=.seq aC.toArray n }) (hf:f aC.toArray=its'.toArray) (hv:Vals ys its') (hz:ys.length<=sizeLine) :
  Inv X aa σ (upd H l (.lst ys)) { s with heap:=s.heap.update l (Obj.mapSeq f),toks:=t' }:=by
 have q:=PySem.IsL.update e f;rw [hf] at q;refine I.write (x:=l) (e:=l) (by rw [hH];exact trivial) (.inl rfl) (λb' u hb hu=>(Heap.get?_update_other s.heap (Obj.mapSeq f) (Ne.symm hb)).trans hu) ⟨_,q⟩ ?_;exact ⟨hz,its',_,hv,q⟩
theorem Inv.ZX {aC:List Value}{t':Nat}(I:Inv X aa σ H s)(hv:Vals ys aC)(hz:ys.length<=sizeLine) :
  Inv X aa σ (upd H s.heap.objs.size (.lst ys)) { s with heap:=s.heap.push { cls:=.type "list", data:=.seq aC.toArray },toks:=t' }:=
 I.laid (λ_ _ q=>Heap.get?_push_of_some _ q) (zD _) ⟨hz,aC,0,hv,Heap.get?_push_size _ rfl⟩
theorem Inv.fresh (I:Inv X aa σ H s):H s.heap.objs.size=none:=I.aY.fresh (zD _)
theorem Inv.uc (I:Inv X aa σ H s)(hH:H l=some (.lst xs)):xs.length<=sizeLine/\∃ (aC:List Value) (n:Nat),Vals xs aC/\xs.length=aC.length/\s.heap.get? l=some { cls:=.type "list", data:=.seq aC.toArray n }:=by obtain ⟨z,aC,n,r,e⟩:=I.aY l _ hH;exact ⟨z,aC,n,r,r.length,e⟩
theorem P6 {n:Nat}(h:n<=sizeLine):Builtin.List.listTooLong n=false:=by unfold Builtin.List.listTooLong;exact decide_eq_false (by omega)
end
section
variable {X:Cx}
noncomputable def fQ:V->List V->Hp->VK->Prop:=λx vs H Q=>∃ l xs y,x=.ref l/\vs=[y]/\H l=some (.lst xs)/\xs.length < sizeLine/\Q .cI (upd H l (.lst (xs++[y])))
theorem wU:MtM X "list.append" fQ:=by intro aa s σ H x vs v us Q I rx rv h;obtain ⟨l,xs,y,rfl,rfl,hH,hz,q⟩:=h;cases rx;obtain ⟨u,rfl,ru⟩:=rv.one;obtain ⟨z,aC,n,r,hl,e⟩:=I.uc hH;refine call_meets F.slot_list_append ⟨_,e,rfl⟩ F.entry_list_append (F.args_list_append_2 _ _) (PySem.list_append l aC.toArray n u (by rw [zQ];omega)) ⟨e,?_⟩;refine ⟨.cI,_,I.Sk (its':=aC++[u]) hH e (by simp) (r.append (.cons ru .nil)) ?_,rfl,q⟩;rw [zE,yA];omega
noncomputable def ZE:R2:=λx y H Q=>∃ l b xs zs,x=.ref l/\y=.ref b/\H l=some (.lst xs)/\H b=some (.lst zs)/\xs.length + zs.length<=sizeLine/\∀ p,H p=none->Q (.ref p) (upd H p (.lst (xs++zs)))
theorem P4:gO X (binaryOp .Add) ZE:=by
 intro aa s σ H x y v u Q I rx ry h;obtain ⟨l,b,xs,zs,rfl,rfl,hH,hB,hz,q⟩:=h;cases rx;cases ry;obtain ⟨z,aC,n,r,hl,e⟩:=I.uc hH;obtain ⟨z2,fG,n2,r2,M8,e2⟩:=I.uc hB;refine PySem.P.add_list e e2 ?_ (by rw [zQ,zQ];omega);have ea:aC.toArray++fG.toArray=(aC++fG).toArray:=by simp
 rw [ea];exact ⟨.ref _,_,I.ZX (t':=s.toks) (r.append r2) (by rw [zE];omega),rfl,q _ I.fresh⟩
end
section
variable {prog:Program}{w:World}{A:Around}{E:Value->Shared->Prop}{s:Shared}
set_option maxRecDepth 100000 in
end
section
variable {X:Cx}
end
end L2
namespace Att
open PySem PySem.W PySem.Calls PyProof.Rows
theorem lP {P:Params}{h:Heap}:∀ (ns:List Int) (vs:List Value),WellAll P h vs (ns.map WData.int)->IntsAre vs ns:=by
 intro ns;induction ns with
 | nil=>
  intro vs w;rw [yf] at w;cases w;exact .nil
 | cons n ns ih=>
  intro vs w;rw [zo] at w;cases w with
  | cons a b=>
   cases a;exact .cons _ _ (ih _ b)
theorem NR {l:OpenLaw}{n:Nat}(hn:l.most=some n){P:Params}{h:Heap}{args:List WData}{vals:List Value}
  (Sz:l.row.toRowW.claim.pre args=true) (Z9:WellAll P h vals args) :
  ∃ a vs ns,vals=[Value.ref a]/\args=[WData.list (ns.map WData.int)]/\h.get? a=some { cls:=.type "list", data:=.seq vs.toArray }/\IntsAre vs ns/\ns.length<=n:=by
 have hsh:WShape.hasAll [] args [.list .int]=true:=(pre_splitW Sz).1;have hc:l.pre.holds [] { args:=args }=true:=(pre_splitW Sz).2;obtain ⟨d,r,rfl,h1,h2⟩:=hasAllW_cons hsh;obtain rfl:=hasAllW_nil h2;obtain ⟨xs,rfl,h3⟩:=hasW_list h1;obtain ⟨ns,rfl⟩:=items_int h3;have hlen:ns.length<=n:=by
  unfold OpenLaw.pre at hc;have h4:(WTm.not (.lt (.lit (.int (n:Int))) (.len (.arg 0)))).holds [] { args:=[.list (ns.map .int)] }=true:=by
   have h4:=(holds_andW hc).1;rw [hn] at h4;exact h4
  have h5:=condW_of h4 (w_not (w_lt w_lit (w_len_list (w_arg rfl))));rw [zA] at h5;refine Nat.le_of_not_lt λq=>?_;have q':(n:Int) < ((ns.length:Nat):Int):=by omega
  first
   | (rw [decide_eq_true q'] at h5;exact absurd h5 (by decide))
   | (simp at h5;omega)
 cases Z9 with
 | cons w1 w2=>
  cases w2;cases w1 with
  | list ho fJ=>exact ⟨_,_,ns,rfl,rfl,ho,lP ns _ fJ,hlen⟩
theorem NU (l:OpenLaw)(args:List WData):l.row.toRowW.claim.post args (.bool true) args=true:=
 postW_of (r:=l.row.toRowW) (X:=(true == true))
  (show WShape.has [] (.bool true) .bool=true by first | rfl | decide | simp [WShape.has,WShape.arms,WShape.armsAll])
  (show (WTm.eq .res (.lit (.bool true))).value [] { args:=args,res:=some (.bool true),after:=args }=some (.bool (true == true)) from w_eq_bool (w_res rfl) w_lit) rfl
theorem uU {l:OpenLaw}{n:Nat}{q:Program}{loose:List Str}{XP:(Str->Option Value)->Heap->Prop}{YP:World->Heap->Prop}{d:DefRec}
  (hn:l.most=some n) (XR:d.params.defaults=[])
  (call:∀ (w:World) (cP bG:Shared) (mg mb:Str->Option Value) (fa:Addr) (o:Obj) (pm cd doc:Value) (a:Addr) (vs:List Value) (ns:List Int),
   Ground q loose [] XP w cP mg mb bG.heap->YP w bG.heap ->
   bG.heap.get? fa=some o->o.data=.func (docDef d.name d.params d.body d.scope pm cd doc)->bG.heap.CodeRec cd d.name->mg d.name=some (.ref fa) ->
   bG.heap.get? a=some { cls:=.type "list", data:=.seq vs.toArray }->IntsAre vs ns->ns.length<=n->bG.gens=#[] ->
   codeAny (model l.prog w) callerA (.call (.ref fa) ⟨[.ref a],[]⟩) (λr s'=>r=.ok (.ret (.bool true))/\OldK bG.heap s'.heap/\s'.os=bG.os/\AllBare s'.gens) bG) :
  WalkO q loose XP YP l.row.toRowW d [] (λf vs=>PySem.call f vs):=by
 intro w cP bG mg mb G Y fa o pm cd doc dV kV ho hd rN hD hmg hg args vals as Sz aeq hrd Z9 hlo;obtain rfl:dV=.none:=Dflts.none hD XR;obtain rfl:kV=.none:=Dflts.noKw hD;obtain ⟨a,vs,ns,rfl,rfl,Vl,hints,hlen⟩:=NR hn Sz Z9;refine enter_call (codeAny_mono (call w cP bG mg mb fa o pm cd doc a vs ns G Y ho (fd_plain hd) rN hmg Vl hints hlen hg) λr s' hq=>?_);obtain ⟨rfl,h2,h3,h4⟩:=hq;exact ⟨.inl ⟨.bool true,.bool true,[],rfl,λ_=>rfl,.bool true,NU l _,λ_=>⟨List.Pairwise.nil,λ_ hm=>(nomatch hm)⟩⟩,h2,h3,h4⟩
section
variable {prog:Program}{w:World}{A:Around}{E:Value->Shared->Prop}{s:Shared}{K:Frag}
noncomputable def ledger (h:Heap)(L d:Addr):List (Addr×Obj):=(List.range h.objs.size).filterMap λa=>if a=L\/a=d then none else (h.get? a).map λo=>(a,o)
end
end Att
namespace L2
open PySem PySem.Spec PyProof.Rows
theorem pP:∀ {vs:List Value}{ns:List Int},IntsAre vs ns->Vals (ns.map V.int) vs
 | _,_,.nil=>.nil
 | _,_,.cons n t h=>.cons ⟨t,rfl⟩ (pP h)
noncomputable def inClass (s:Stmt)(j:Nat):Stmt:=match s with
 | .ClassDef _ _ _ body _ _ _ _ _ _ _=>body.getD j (.Pass ⟨0,0,0,0⟩)
 | _=>.Pass ⟨0,0,0,0⟩
noncomputable def mz (s:Stmt):Arguments:=match s with
 | .FunctionDef _ a _ _ _ _ _ _ _ _=>a
 | _=>{ posonlyargs:=[],args:=[],vararg:=none,kwonlyargs:=[],kw_defaults:=[],kwarg:=none,defaults:=[] }
noncomputable def gg (s:Stmt):List Stmt:=match s with
 | .FunctionDef _ _ b _ _ _ _ _ _ _=>b
 | _=>[]
noncomputable def av (s:Stmt):Scope:=match s with
 | .FunctionDef _ _ _ _ _ _ sc _ _ _=>sc
 | _=>{ kind:=.function,names:=[],isGenerator:=false,isCoroutine:=false }
noncomputable abbrev cR:OR:=λ_ _ _ _ _ _=>False
noncomputable abbrev E0:XK:=λ_ _ _=>False
theorem ay {X:Cx}:Passes cR X E0:=λ_ _ _ _ _ _ _ h=>h.elim
structure bI (K:PySem.W.Frag) (x qual:Str) (st:Stmt) (f:Addr) (fd:FuncData):Prop where
 ex:∃ (oc:Value) (od:Option Addr) (kV doc pm:Value) (an:Option Addr) (bZ ct:Value) (Rc:Array (Option Value)),
  fd=xV x qual (mz st) (gg st) (av st) .none kV doc pm an bZ ct/\K.lookup f=some ⟨oc,od,.func fd,Rc⟩/\PySem.W.codeIn K bZ qual=true
 kp:zG K (.ref f)=true
section
variable {P:Program}{w:World}{K:PySem.W.Frag}{mg:Str->Option Value}{base:Heap}
theorem bI.ok {x qual:Str}{st:Stmt}{f:Addr}{fd:FuncData}{N ps:List Str}{k:Nat}{sp:Sp}(F:bI K x qual st f fd)(S:aA N ps (av st))(len:∀ vs H Q E,sp vs H Q E->vs.length=ps.length)
  (ir:∀ (bZ:Value) (A:Around) (outer:List Env) (s:Shared) (H:Hp) (vs:List V) (Q:VK) (E:XK),cJ k (A.deeper (envOfC qual (av st) s.heap.objs.size f bZ))->sp vs H Q E ->
   ∃ t,qK (iu cR P w K mg base N qual (av st) f bZ A outer s H E).rE (gg st) t/\t { nx:=λ_ H'=>Q .cI H',rt:=Q } (start N vs) H):aV P w K mg base cR (k + 1) f fd ps sp:=by
 obtain ⟨oc,od,kV,doc,pm,an,bZ,ct,Rc,rfl,lk,rN⟩:=F.ex;refine QG lk rN S len λA outer s H vs Q E hr um=>?_;obtain ⟨t,h,q⟩:=ir bZ A outer s H vs Q E hr um;exact ⟨t,h.rE,q⟩
theorem bI.binds {x qual:Str}{st:Stmt}{f:Addr}{fd:FuncData}{ps:List Str}(F:bI K x qual st f fd)
  (h:∀ (kV doc pm:Value) (an:Option Addr) (bZ ct:Value) (us:List Value),us.length=ps.length->bindArgs (xV x qual (mz st) (gg st) (av st) .none kV doc pm an bZ ct) ⟨us,[]⟩=pure (ps.zip us)):Binds K fd ps []:=by
 obtain ⟨oc,od,kV,doc,pm,an,bZ,ct,Rc,rfl,lk,rN⟩:=F.ex;exact .all (h kV doc pm an bZ ct)
theorem fun_mk {x qual:Str}{st:Stmt}{f:Addr}{oc:Value}{od an:Option Addr}{Rc:Array (Option Value)}{kV doc pm bZ ct:Value}(l:K.lookup f=some ⟨oc,od,.func (xV x qual (mz st) (gg st) (av st) .none kV doc pm an bZ ct),Rc⟩)
  (c:PySem.W.codeIn K bZ qual=true) (k:zG K (.ref f)=true):bI K x qual st f (xV x qual (mz st) (gg st) (av st) .none kV doc pm an bZ ct):=⟨⟨oc,od,kV,doc,pm,an,bZ,ct,Rc,rfl,l,c⟩,k⟩
end
section
variable {X:Cx}
theorem pv (i:Nat){x:Str}{pos:Pos}(hN:X.N[i]?=some x:=by rfl)(hv:Zg X.env.scope x:=by first | exact Or.inl rfl | exact Or.inr (Or.inl rfl) | exact Or.inr (Or.inr rfl))(hd:(x == ("__debug__" : Str))=false:=by decide)
  (rN:(x == ("__classdict__" : Str))=false:=by decide):PE X (.Name x pos) (sU i):=UI hN hv hd rN
end
theorem Z5 {A B:Prop}(h:B):if false=true then A else B:=by rw [if_neg zO];exact h
theorem Xo {c A B:Prop}[Decidable c](hc:c)(h:B):if (!decide c)=true then A else B:=by rw [decide_eq_true hc];exact Z5 h
noncomputable def aB (H H':Hp):Prop:=∀ b o,H b=some o->H' b=some o
theorem aB.refl (H:Hp):aB H H:=λ_ _ h=>h
theorem aB.trans {H H1 H2:Hp}(a:aB H H1)(b:aB H1 H2):aB H H2:=λc o h=>b c o (a c o h)
theorem aB.free {H H':Hp}(e:aB H H'){l:Addr}(h:H' l=Option.none):H l=Option.none:=by
 cases q:H l with
 | none=>rfl
 | some o=>
  rw [e l o q] at h;cases h
theorem aB.seq {K:PySem.W.Frag}{H H':Hp}{a:Addr}{xs:List V}(e:aB H H')(h:aL K H a xs):aL K H' a xs:=by
 rcases h with (h | ⟨o,h⟩) | h
 ·exact .inl (.inl (e _ _ h))
 ·exact .inl (.inr ⟨o,e _ _ h⟩)
 ·exact .inr h
theorem qd {prog:Program}{w:World}{A:Around}{R:Result->Shared->Prop}{s:Shared}{elt target iter:Expr}{ifs:List Expr}{scope:Scope}{pos:Pos}{it acc:Value}{env:Env}(I:Nat->Shared->Prop)
  (turn:∀ n s,I n s->wpAny (model prog w) A (pyNext it) (λr bG=>match r with
   | none=>R (.ok .next) bG
   | some v=>wpAny (model prog w) A (letOwnedTupleGo target it v) (λ_ Tc=>wpAny (model prog w) A (assign target env v) (λ_ ki=>
     wpAny (model prog w) A (forIn ifs true λc r=>if r=true then do let ok <- isTrue c env (eval c env);pure (ForInStep.yield ok) else pure (ForInStep.yield r)) (λok sV=>
      if ok=true then wpAny (model prog w) A (eval elt env) (λx WI=>
       wpAny (model prog w) A (call (.builtin "list.append") [acc,x]) (λ_ WH=>∃ m,m < n/\I m WH) (λ_ _=>False) WI) (λ_ _=>False) sV
      else ∃ m,m < n/\I m sV) (λ_ _=>False) ki) (λ_ _=>False) Tc) (λ_ _=>False) bG) (λ_ _=>False) s)
  (n:Nat) (h:I n s) :
  codeAny (model prog w) A (.compLoop (.ListComp elt [⟨target,iter,ifs,0⟩] scope pos) 0 it acc env) R s:=by
 refine codeAny_loop rfl I (λn s hI=>?_) n h;show wpAny _ A ((compTurn (.ListComp elt [⟨target,iter,ifs,0⟩] scope pos) 0 it acc env).onRaise (λx=>do noteFrame x env;theTreesLotGoes x)) _ _ s;refine wpAny_noted ?_;rw [compTurn_list];refine wpAny_bind (wpAny_standAt (wpAny_bind (wpAny_mono (turn n s hI) (λr bG gI=>?_) λ_ _ h'=>h'.elim)));cases r with
 | none=>exact wpAny_pure gI
 | some v=>
  refine wpAny_bind (wpAny_mono gI (λ_ Tc Xu=>?_) λ_ _ h'=>h'.elim);refine wpAny_bind (wpAny_mono Xu (λ_ ki Qq=>wpAny_bind (wpAny_mono Qq (λok sV Sx=>?_) λ_ _ h'=>h'.elim)) λ_ _ h'=>h'.elim);cases ok with
  | false=>exact wpAny_pure ⟨rfl,Sx⟩
  | true=>
   exact wpAny_bind (wpAny_bind (wpAny_mono Sx (λx WI Z8=>wpAny_bind (wpAny_mono Z8 (λ_ WH Z7=>wpAny_pure (wpAny_pure ⟨rfl,Z7⟩)) λ_ _ h'=>h'.elim)) λ_ _ h'=>h'.elim))
noncomputable def iS (names:List (Str×NameKind))(env:Env)(cs:List (Str×Addr)):List (Str×Addr):=
 names.foldl (λcs p=>if p.2=.free then (match env.cells.lookup p.1 with | some c=>(p.1,c)::cs | none=>cs) else cs) cs
theorem jS {env:Env}:∀ (names:List (Str×NameKind)) (cs:List (Str×Addr)),(∀ y∈names,y.2=.free->∃ c,env.cells.lookup y.1=some c) ->
  (forIn names cs λx r=>(if (x.2 == NameKind.free)=true then do let a <- cellOf env x.1;pure (ForInStep.yield ((x.1,a)::r)) else pure (ForInStep.yield r):Sem _))=pure (iS names env cs)
 | [],cs,_=>by simp [iS]
 | (n,k)::r,cs,h=>by
  have ih:=λcs=>jS r cs λy hy=>h y (zc _ hy);simp only [List.forIn_cons];by_cases hk:k=.free
  ·subst hk;obtain ⟨c,e⟩:=h (n,.free) z8 rfl;have e':env.cells.lookup n=some c:=e;have ec:cellOf env n=pure c:=by unfold cellOf;rw [e']
   simp only [beq_self_eq_true,if_true,ec,pure_bind];rw [ih];simp [iS,e']
  ·have hb:(k == NameKind.free)=false:=by simpa using hk
   simp only [hb,za,if_false,pure_bind];rw [ih];simp [iS,hk]
theorem i6 {scope:Scope}{env:Env}(h:∀ y∈scope.names,y.2=.free->∃ c,env.cells.lookup y.1=some c):closureFor scope env=pure (iS scope.names env []):=by unfold closureFor;have:=jS scope.names [] h;simp only [bind_pure];exact this
theorem uL {env:Env}:∀ (names:List (Str×NameKind)) (cs:List (Str×Addr)) (x:Str) (c:Addr),(x,c)∈iS names env cs->(x,c)∈cs\/env.cells.lookup x=some c
 | [],cs,x,c,h=>.inl h
 | (n,k)::r,cs,x,c,h=>by
  have h':(x,c)∈iS r env (if k=.free then (match env.cells.lookup n with | some c=>(n,c)::cs | none=>cs) else cs):=h;rcases uL r _ x c h' with q | q
  ·split at q
   ·cases e:env.cells.lookup n with
    | none=>rw [e] at q;exact .inl q
    | some d=>
     rw [e] at q;rcases zH.mp q with z | z
     ·cases z;exact .inr e
     ·exact .inl z
   ·exact .inl q
  ·exact .inr q
theorem qE {env:Env}:∀ (names:List (Str×NameKind)) (cs:List (Str×Addr)) (x:Str),(∃ c,(x,c)∈cs)->∃ c,(x,c)∈iS names env cs
 | [],cs,x,h=>h
 | (n,k)::r,cs,x,⟨c,h⟩=>by
  refine qE r _ x ?_;dsimp only;split
  ·split
   ·exact ⟨c,zc _ h⟩
   ·exact ⟨c,h⟩
  ·exact ⟨c,h⟩
theorem uM {env:Env}:∀ (names:List (Str×NameKind)) (cs:List (Str×Addr)) (x:Str),(x,NameKind.free)∈names->(∃ c,env.cells.lookup x=some c)->∃ c,(x,c)∈iS names env cs
 | [],_,_,h,_=>by simp at h
 | (n,k)::r,cs,x,h,⟨c,e⟩=>by
  rcases zH.mp h with z | z
  ·have e1:x=n:=congrArg Prod.fst z;have e2:NameKind.free=k:=congrArg Prod.snd z;subst e1 e2;refine qE r _ x ⟨c,?_⟩;dsimp only;rw [if_pos rfl,e];exact z8
  ·exact uM r _ x z ⟨c,e⟩
theorem iY {β:Type}:∀ (l:List (Str×β)) (x:Str) (c:β),(x,c)∈l->∃ d,l.lookup x=some d
 | (n,d)::r,x,c,h=>by
  cases hx:x == n with
  | true=>exact ⟨d,by simp [yi,hx]⟩
  | false=>
   simp only [yi,hx];rcases zH.mp h with z | z
   ·cases z;simp at hx
   ·exact iY r x c z
theorem wP {names:List (Str×NameKind)}{env:Env}{x:Str}{c:Addr}(h:(iS names env []).lookup x=some c):env.cells.lookup x=some c:=by
 rcases uL names [] x c (yL h) with q | q
 ·simp at q
 ·exact q
theorem qD {names:List (Str×NameKind)}{env:Env}{x:Str}{c:Addr}(h:(x,NameKind.free)∈names)(e:env.cells.lookup x=some c):(iS names env []).lookup x=some c:=by obtain ⟨d,hd⟩:=uM names [] x h ⟨c,e⟩;obtain ⟨d',Oi⟩:=iY _ _ _ hd;have:=wP Oi;rw [e] at this;cases this;exact Oi
theorem dz {env:Env}:∀ {names:List (Str×NameKind)}{x:Str},names.lookup x=some .free ->
  (names.map λ(n,k)=>if (k == NameKind.free && env.scope.kind == .function && env.kindOf n == some .cell) then (n,NameKind.cell) else (n,k)).lookup x=some .cell \/
  (names.map λ(n,k)=>if (k == NameKind.free && env.scope.kind == .function && env.kindOf n == some .cell) then (n,NameKind.cell) else (n,k)).lookup x=some .free
 | [],_,h=>by simp at h
 | (n,k)::r,x,h=>by
  have ih:=@dz env r x;show xB x ((if (k == NameKind.free && env.scope.kind == .function && env.kindOf n == some .cell)=true then (n,NameKind.cell) else (n,k))::_)=_\/xB x ((if (k == NameKind.free && env.scope.kind == .function && env.kindOf n == some .cell)=true then (n,NameKind.cell) else (n,k))::_)=_;by_cases hc:(k == NameKind.free && env.scope.kind == .function && env.kindOf n == some .cell)=true
  ·rw [if_pos hc];cases hx:x == n with
   | true=>left;simp [yi,hx]
   | false=>
    simp only [yi,hx] at h ⊢;exact ih h
  ·rw [if_neg hc];cases hx:x == n with
   | true=>
    simp only [yi,hx] at h;cases h;right;simp [yi,hx]
   | false=>
    simp only [yi,hx] at h ⊢;exact ih h
structure aM (own:List Str) (caps:List Nat) (N:List Str) (sc scope:Scope):Prop where
 kind:scope.kind=.function
 rF:∀ y∈scope.names,y.2≠.cell
 loc:∀ y∈scope.names,y.2=.local->scope.names.lookup y.1=some .local
 fr:∀ y∈scope.names,y.2=.free->sc.names.lookup y.1=some .cell\/sc.names.lookup y.1=some .free
 Wn:∀ i∈caps,i < N.length/\scope.names.lookup ((N[i]?).getD Str.empty)=some .free
noncomputable def gh (X:Cx)(own:List Str)(caps:List Nat)(scope:Scope)(s:Shared)(H:Hp)(fp:List Addr)(C:Addr):Cx:=
 { X with N:=own++caps.map (λi=>(X.N[i]?).getD Str.empty),cP:=s,OJ:=H,env:=compEnvC scope (iS scope.names X.env []) C X.env,outer:=X.stack,ex:=fp,fn:=λ_=>false,pn:=[],xe:=λ_ _=>False }
noncomputable def d9 (n:Nat)(caps:List Nat)(σ:St):St:=List.replicate n none++caps.map λi=>(σ[i]?).join
section
variable {X:Cx}{aa:List (Addr×Obj)}{σ:St}{H:Hp}{s:Shared}
theorem jP {scope:Scope}{env:Env}(nc:∀ y∈scope.names,y.2≠.cell){x:Str}{k:NameKind}(hk:k=.cell\/k=.free)(h:(relabel scope env).names.lookup x=some k):(x,NameKind.free)∈scope.names:=by
 have hm:=yL h;obtain ⟨⟨n,k0⟩,hy,e⟩:=zP.mp hm;dsimp only at e;split at e
 ·rename_i hc;simp only [yz,beq_iff_eq] at hc;have e1:n=x:=congrArg Prod.fst e;subst e1;rw [hc.1.1] at hy;exact hy
 ·cases e;rcases hk with z | z
  ·subst z;exact absurd rfl (nc _ hy)
  ·subst z;exact hy
theorem uh {own:List Str}{caps:List Nat}{scope:Scope}{fp:List Addr}{D C:Addr}{o:Obj}{h1:Heap}{tk:Nat}(I:Inv X aa σ H s)(S:aM own caps X.N X.env.scope scope)
  (f:∀ b∈fp,pH X aa H b) (fl:∀ b∈fp,b < s.heap.objs.size) (hD:s.heap.objs.size<=D) (hC:s.heap.objs.size<=C) (SI:D≠C) (keep:∀ b o,s.heap.get? b=some o->h1.get? b=some o)
  (XA:h1.Ns C λ_=>none) (QA:h1.get? D=some o) (ho:∀ v,o.data≠.cell v) :
  Inv (gh X own caps scope s H fp C) [(D,o)] (d9 own.length caps σ) H { s with heap:=h1,toks:=tk }:=by
 have sub:∀ b∈mq X.stack,b < s.heap.objs.size:=λb hb=>by
  rcases zH.mp (I.gT b hb) with e | hb
  ·rw [e];exact I.lt
  ·by_cases q:b < s.heap.objs.size
   ·exact q
   ·exact absurd hb (I.Xb (Nat.le_of_not_lt q))
 refine ⟨⟨I.ok.mod,S.kind,I.ok.glob,I.ok.blt,hC,λx y c h1 h2=>I.ok.inj x y c (wP h1) (wP h2),λx hx=>?_,λx c z _=>absurd (show false=true from z) zO,I.ok.hd,I.ok.frames,.inl rfl,
   λb hb=>⟨zV (zR (fl b hb) hC),λx c e=>(f b hb).2.2.2.2.1 x c (wP e)⟩,I.bs,yB I.ok.OP I.sz,λb ob e hb=>?_,λb hb hs=>?_,I.stack,I.qS⟩,
  rfl,I.bare,Un.kept keep,⟨_,XA,λi x v e1 e2 e3=>?_⟩,λx c e=>?_,I.aY.fresh hC,λx c e=>I.gF x c (wP e),λp hp=>?_,I.aY.kept keep,?_⟩
 ·have hm:(x,NameKind.free)∈scope.names:=by
   rcases hx with hx | hx
   ·exact jP S.rF (.inl rfl) hx
   ·exact jP S.rF (.inr rfl) hx
  obtain ⟨c,hc⟩:=I.ok.has x (S.fr _ hm rfl);exact ⟨c,qD hm hc⟩
 ·rcases (f b hb).2.2.2.1 with z | z
  ·exact I.ok.N4 b ob e z
  ·exact absurd (zR (Heap.lt_size e) (yB I.ok.OP z)) (z6 _)
 ·rcases zH.mp (I.gT b hs) with e | e
  ·exact (f b hb).2.1 e
  ·exact (f b hb).2.2.1 e
 ·have Ye:(List.replicate own.length (none:Option V)++caps.map λi=>(σ[i]?).join)[i]?=some (some v):=e2;have Yg:(own++caps.map (λi=>(X.N[i]?).getD Str.empty))[i]?=some x:=e1;have hi:own.length<=i:=by
   by_cases q:i < own.length
   ·rw [zU (by simpa using q),List.getElem?_replicate,if_pos q] at Ye;cases Ye
   ·exact Nat.le_of_not_lt q
  rw [zY (by simpa using hi),List.length_replicate,zS] at Ye;rw [zY hi,zS] at Yg;cases ek:caps[i - own.length]? with
  | none=>rw [ek] at Yg;cases Yg
  | some k=>
   rw [ek] at Yg Ye;have ex:(X.N[k]?).getD Str.empty=x:=Option.some.inj Yg;have ev:(σ[k]?).join=some v:=Option.some.inj Ye;have ev':σ[k]?=some (some v):=by
    cases q:σ[k]? with
    | none=>rw [q] at ev;cases ev
    | some y=>rw [q] at ev;exact congrArg some ev
   obtain ⟨hl,hf⟩:=S.Wn k (zB ek);have eN:X.N[k]?=some x:=by
    rw [zL hl] at ex ⊢;exact congrArg some ex
   rw [ex] at hf;have hm:=yL hf;have Vq:=S.fr _ hm rfl;obtain ⟨m,_,XM⟩:=I.loc;obtain ⟨u,ru,lk⟩:=XM k x v eN ev' (.inr Vq);refine ⟨u,ru,.inr ⟨dz hf,?_⟩⟩;rcases lk with ⟨kl,_⟩ | ⟨_,c,hc,ob,Ri,hd⟩
   ·have YJ:X.env.scope.names.lookup x=some .local:=kl;rcases Vq with z | z
    ·have z':X.env.scope.names.lookup x=some .cell:=z;rw [z'] at YJ;cases YJ
    ·have z':X.env.scope.names.lookup x=some .free:=z;rw [z'] at YJ;cases YJ
   ·exact ⟨c,qD hm hc,ob,keep c ob Ri,hd⟩
 ·obtain ⟨v,ob,Ri,hd⟩:=I.cell x c (wP e);exact ⟨v,ob,keep c ob Ri,hd⟩
 ·have e:p=(D,o):=by simpa using (show p∈[]++[(D,o)] from hp)
  subst e;refine ⟨QA,I.aY.fresh hD,SI,λz=>?_,ho⟩;exact absurd (zR (sub D z) hD) (z6 _)
 ·show (d9 own.length caps σ).length=(own++caps.map (λi=>(X.N[i]?).getD Str.empty)).length;simp [d9]
noncomputable def Zi (X:Cx)(ifs:List Expr)(t:TT):Prop:=
 ∀ (aa:List (Addr×Obj)) (s:Shared) (σ:St) (H:Hp) (Q:Bool->Hp->Prop),Inv X aa σ H s->t σ H Q ->
  wpAny (model X.prog X.w) X.A (forIn ifs true λc r=>if r=true then do let ok <- isTrue c X.env (eval c X.env);pure (ForInStep.yield ok) else pure (ForInStep.yield r)) (TP X aa σ Q) X.xe s
noncomputable def vm:TT:=λ_ H Q=>Q true H
theorem cX:Zi X [] vm:=λ_ s σ H Q I h=>wpAny_tests_nil ⟨H,I,h⟩
theorem fS {c:Expr}{t:TT}(h:PT X c t):Zi X [c] t:=λaa s σ H Q I q=>wpAny_tests_one (h aa s σ H Q I q)
noncomputable def S9 (n:Nat)(caps:List Nat)(wi:TI)(g:TG)(tc:TT)(te:TE):TE:=fun σ H Q=>wi σ H λJ H1=>∃ W:Nat->Nat->St->List V->Hp->Prop,(∃ m,W 0 m (d9 n caps σ) [] H1)/\∀ i m τ acc H,W i m τ acc H ->
 (J.stop i H/\acc.length<=sizeLine/\∀ p,H p=none->Q (.ref p) (upd H p (.lst acc))) \/
 (J.go i H/\acc.length < sizeLine/\∀ x H',J.sM i H x H'->g x τ H' fun bT H2=>tc bT H2 λb H3=>if b=true then te bT H3 λy H4=>∃ m',m' < m/\W (i + 1) m' bT (acc++[y]) H4 else ∃ m',m' < m/\W (i + 1) m' bT acc H3)
theorem gP.S5 {P:Program}{w:World}{H:Hp}{h:Heap}{a:Addr}{o:HO}(x:gP P w H h)(hn:H a=none)(new:bK P w (upd H a o) h a o):gP P w (upd H a o) h:=λb u e=>by
 by_cases hb:b=a
 ·subst hb;rw [xb] at e;cases e;exact new
 ·rw [xj hb] at e;exact (x b u e).dJ (λc v _ q=>q) (λc q=>by rw [xj (xh q hn)];exact q) λc xs q=>by rw [xj (xh q hn)];exact q
theorem wr {own:List Str}{caps:List Nat}{elt tg iter:Expr}{ifs:List Expr}{scope:Scope}{pos:Pos}{wi:TI}{g:TG}{tc:TT}{te:TE}(hc:X.calm=true)(S:aM own caps X.N X.env.scope scope)(hi:PI X tg iter wi)
  (hg:∀ s H fp C,PG (gh X own caps scope s H fp C) tg g) (ht:∀ s H fp C,Zi (gh X own caps scope s H fp C) ifs tc) (he:∀ s H fp C,PE (gh X own caps scope s H fp C) elt te)
  (hs:∀ x,foldedSetIterable iter X.env x=pure x:=by intro _;rfl):PE X (.ListComp elt [⟨tg,iter,ifs,0⟩] scope pos) (S9 own.length caps wi g tc te):=by
 intro aa s σ H Q I h;rw [eval_ListComp];refine wpAny_comprehension_free (use:=none) (cl:=iS scope.names X.env []) rfl hs (i6 λy hy e=>I.ok.has y.1 (S.fr y hy e)) S.kind S.loc
  (wpAny_mono (hi aa s σ H _ I h) (λv s1 h1=>bu h1 λYL s2 h2=>?_) λ_ _ e=>e)
 obtain ⟨it,fp,tn,J,H2,e,I2,T,sI,f2,W,⟨m0,w0⟩,turn⟩:=h2;subst e;refine wpAny_newObj_type (wpAny_newFunctionEnv S.rF (by intro y hy;simp at hy) (λgI jh fY=>?_) S.kind);dsimp only at jh fY ⊢;generalize Vw:s2.heap.push { cls:=.type "list", dict:=none,data:=.seq ([]:List Value).toArray }=G at jh fY ⊢;have hG:G.objs.size=s2.heap.objs.size + 1:=by rw [<-Vw,Heap.size_push]
 have SI:s2.heap.objs.size≠G.objs.size:=by rw [hG];exact zV (xN _)
 have SJ:s2.heap.objs.size<=G.objs.size:=by rw [hG];exact xC _
 have below:∀ b,b < s2.heap.objs.size->b≠G.objs.size:=λb hb=>by rw [hG];exact zV (yZ hb)
 have old:∀ b o,s2.heap.get? b=some o->gI.get? b=some o:=λb o e=>fY.extBut b o (below b (Heap.lt_size e)) (Heap.get?_push_of_some _ (Vw ▸ Heap.get?_push_of_some _ e));have QA:gI.get? s2.heap.objs.size=some { cls:=.type "list", dict:=none,data:=.seq ([]:List Value).toArray }:=fY.extBut _ _ SI (Heap.get?_push_of_some _ (Vw ▸ Heap.get?_push_size _ rfl));have fl:∀ b∈fp,b < s2.heap.objs.size:=λb hb=>let ⟨o,e,_⟩:=T.obj _ _ sI b hb;Heap.lt_size e;have rL:gI.Ns G.objs.size λ_=>none:=jh;have I4:=uh (tk:=s2.toks + ([]:List (Str×Value)).length) I2 S f2 fl (zD _) SJ SI old rL QA (λv z=>nomatch z);have sE:tn 0 gI:=T.keep _ _ _ sI λb _ o e=>old b o e;generalize hs4:({ s2 with heap:=gI,toks:=s2.toks + ([]:List (Str×Value)).length }:Shared)=s4 at I4 ⊢;have e4:s4.heap=gI:=by rw [<-hs4]
 rw [<-e4] at sE
 -- S6 loop
 have loop:codeAny (model X.prog X.w) X.A (.compLoop (.ListComp elt [⟨tg,iter,ifs,0⟩] scope pos) 0 (.ref it) (.ref s2.heap.objs.size) (compEnvC scope (iS scope.names X.env []) G.objs.size X.env))
   (compPost (model X.prog X.w) X.A X.xe none (EP X aa σ Q) (.ref s2.heap.objs.size) G.objs.size) s4:=by
  let Y:=gh X own caps scope s2 H2 fp G.objs.size
  have mU:∀ {H':Hp}{aC:List Value}{n:Nat},(∀ b∈fp,H' b=none)->∀ b∈fp,pH Y [(s2.heap.objs.size,({ cls:=.type "list", data:=.seq aC.toArray n }:Obj))] H' b:=λ{H' aC n} hn b hb=>by
   refine ⟨hn b hb,below b (fl b hb),λz=>?_,.inl hb,λx c e=>(f2 b hb).2.2.2.2.1 x c (wP e),λp hp=>?_⟩
   ·rcases zH.mp (I2.gT b z) with e | e
    ·exact (f2 b hb).2.1 e
    ·exact (f2 b hb).2.2.1 e
   ·have e:p=(s2.heap.objs.size,({ cls:=.type "list", data:=.seq aC.toArray n }:Obj)):=by simpa using (show p∈[]++[_] from hp)
    subst e;exact yQ (fl b hb)
  refine qd (λn s'=>∃ i τ acc aC k H',Inv Y [(s2.heap.objs.size,({ cls:=.type "list", data:=.seq aC.toArray k }:Obj))] τ H' s'/\tn i s'.heap/\(∀ b∈fp,H' b=none)/\Vals acc aC/\W i n τ acc H') ?_ m0
   ⟨0,_,[],[],0,H2,I4,sE,λb hb=>(f2 b hb).1,.nil,w0⟩
  rintro n s5 ⟨i,τ,acc,aC,k,H5,I5,gM,VC,RT,w5⟩;rcases turn i n τ acc H5 w5 with ⟨stop,hz,q⟩ | ⟨go,hz,step⟩
  ·refine bu (T.done Y rfl rfl rfl hc i _ s5 τ H5 (λ_ _=>False) I5 (mU VC) gM stop) λr s6 ⟨hr,I6⟩=>?_;subst hr;obtain ⟨eD,nD,_,_,_⟩:=I6.pin _ (zK _ (zF.mpr rfl));obtain ⟨m6,hm6,_⟩:=I6.loc;refine ⟨m6,hm6,λh' Vg=>?_⟩;have Y3:H5 G.objs.size=none:=I6.free;have eD':h'.get? s2.heap.objs.size=some { cls:=.type "list", data:=.seq aC.toArray k }:=Vg.extBut _ _ SI eD;have Vk:gP X.prog X.w H5 h':=λb u e=>(I6.aY b u e).dJ (λc v hcv qv=>Vg.extBut c v (by
     rcases hcv with z | z
     ·subst z;exact xh e Y3
     ·exact xh z Y3) qv) (λ_ q=>q) λ_ _ q=>q
   refine ⟨.ref s2.heap.objs.size,_,?_,rfl,q _ nD⟩;have ub:=I6.base;refine I2.Nj (ch:=fp) (s':={ s6 with heap:=h' }) I6.os ⟨λb o e n' hb hx=>Vg.extBut b o (below b (Heap.lt_size e)) (ub.keep b o e n' hb hx),λb o e n' hb hx=>?_,λb o e n' hx=>?_,λb o e hx=>?_,λb xs e=>?_,λb o u e=>?_,λb ps e=>?_⟩
    (Vk.S5 nD ⟨hz,aC,k,RT,eD'⟩) I6.bare λb hb=>⟨(f2 b hb).2.2.2.1,(f2 b hb).2.1,(f2 b hb).2.2.2.2.1,(f2 b hb).2.2.2.2.2⟩
   ·obtain ⟨sl,e'⟩:=ub.slot b o e n' hb hx;exact ⟨sl,Vg.extBut b _ (below b (Heap.lt_size e)) e'⟩
   ·rw [xj (zV (Heap.lt_size e))];exact ub.free b o e n' hx
   ·obtain ⟨o',e'⟩:=ub.there b o e hx;exact ⟨o',Vg.extBut b _ (below b (Heap.lt_size e)) e'⟩
   ·have z:=ub.aS b xs e;rw [xj (xh z nD)];exact z
   ·have z:=ub.fc b o u e;rw [xj (xh z nD)];exact z
   ·obtain ⟨more,z⟩:=ub.eY b ps e;exact ⟨more,by rw [xj (xh z nD)];exact z⟩
  ·refine bu (T.item Y rfl rfl rfl hc i _ s5 τ H5 (λ_ _=>False) I5 (mU VC) gM go) λr s6 ⟨u,hr,h6⟩=>?_;subst hr;refine bu h6 λ_ s7 ⟨x,H7,I7,r7,y7,NH,fr7⟩=>?_;have I7':=I7.pinned (mU fr7) (T.obj _ _ NH);refine bu (hg s2 H2 fp G.objs.size _ s7 τ H7 x u _ I7' r7 (step x H7 y7)) λ_ s8 ⟨OS,H8,I8,q8⟩=>?_;refine bu (ht s2 H2 fp G.objs.size _ s8 OS H8 _ I8 q8) λok s9 ⟨H9,I9,q9⟩=>?_
   -- S6 nX state behind S6 turn
   have back:∀ {s':Shared}{Wu:St}{H':Hp},Inv Y ([(s2.heap.objs.size,({ cls:=.type "list", data:=.seq aC.toArray k }:Obj))]++ku fp s7.heap) Wu H' s'->(tn (i + 1) s'.heap/\∀ b∈fp,H' b=none):=λ{s' Wu H'} Ib=>
    ⟨T.keep _ _ _ NH λb hb o e=>(Ib.pin (b,o) (zK _ (zK _ (wy hb e)))).1,λb hb=>by
     obtain ⟨o,e,d⟩:=T.obj _ _ NH b hb;exact (Ib.pin (b,o) (zK _ (zK _ (wy hb e)))).2.1⟩
   cases ok with
   | false=>
    obtain ⟨m',oU,w'⟩:=q9;obtain ⟨sb,fb⟩:=back I9;exact ⟨m',oU,i + 1,OS,acc,aC,k,H9,I9.fu,sb,fb,RT,w'⟩
   | true=>
    refine bu (he s2 H2 fp G.objs.size _ s9 OS H9 _ I9 q9) λy Pq ⟨yv,Wt,VZ,ZF,ZG⟩=>?_;obtain ⟨m',oU,w'⟩:=ZG;obtain ⟨sb,fb⟩:=back VZ;obtain ⟨eD,nD,UR,ZQ,_⟩:=VZ.pin (s2.heap.objs.size,_) (zK _ (zd _ (zF.mpr rfl)));have hl:acc.length=aC.length:=RT.length;refine call_meets F.slot_list_append ⟨_,eD,rfl⟩ F.entry_list_append (F.args_list_append_2 _ _) (PySem.list_append s2.heap.objs.size aC.toArray k y (by rw [zQ];omega)) ⟨eD,?_⟩;have q:=PySem.IsL.update eD (λa:Array Value=>a.push y);have Iu:Inv Y [] OS Wt Pq:=VZ.cY λp hp=>nomatch hp;have It:=Iu.turned (t':=Pq.toks) (it:=s2.heap.objs.size) (h':=Pq.heap.update s2.heap.objs.size (Obj.mapSeq (λa:Array Value=>a.push y))) (λb o hb e=>(Heap.get?_update_other Pq.heap _ (Ne.symm hb)).trans e) nD UR (.inr (zD _))
     (λx c e z=>by
      obtain ⟨v,ob,Ri,_⟩:=I2.cell x c (wP e);exact absurd (Heap.lt_size Ri) (by rw [z];exact z6 _)) (λp hp=>nomatch hp)
    have It':=It.cY (iW:=[(s2.heap.objs.size,({ cls:=.type "list", data:=.seq (aC++[y]).toArray (k + 1) }:Obj))]) λp hp=>by
     have e:p=_:=zF.mp hp;subst e;exact ⟨by simpa using q,nD,UR,ZQ,λv z=>nomatch z⟩
    refine ⟨m',oU,i + 1,OS,acc++[yv],aC++[y],_,Wt,It',T.keep _ _ _ sb λb hb o e=>(Heap.get?_update_other Pq.heap _ (yQ (fl b hb))).trans e,fb,RT.append (.cons ZF .nil),w'⟩
 exact codeAny_compStart_list loop (T.self _ 0 s4 _ _ sE loop)
end
open AutoSeq1 (wpAny_loadPart')
section
variable {prog:Program}{w:World}{A:Around}{E:Value->Shared->Prop}{s:Shared}
theorem UO {it t:Addr}{i:Nat}{items}{x:Value}{Q:Value->Shared->Prop}(hit:s.heap.IsTupleIter it t i)(ht:s.heap.IsTuple t items)(hx:items[i]?=some x)
  (hQ:∀ h',h'.IsTupleIter it t (i + 1)->Heap.SameBut it s.heap h'->Q x { s with heap:=h' }):wpAny (model prog w) A (Builtin.SmallTypes.nextOf (.ref it)) Q E s:=by
 have ty:=hit.typeIs (s:=s);obtain ⟨o,ho,hc,hd⟩:=hit;obtain ⟨ot,hot,_,n,hdt⟩:=ht;have new:=hQ _ ⟨_,Heap.get?_update_self (Obj.mapFields (·.set! 1 (rawInt (i + 1)))) ho (Obj.isFreed_of_fields (Obj.data_mapFields hd _)),(Obj.cls_mapFields ..).trans hc,by rw [Obj.data_mapFields hd];simp [rawInt]⟩ (Heap.SameBut.update ..);unfold Builtin.SmallTypes.nextOf;refine wpAny_bind (wpAny_callSpecial?_slot ty F.slot_tuple_iterator_next (wpAny_call_entry F.slot_tuple_iterator_next ty F.entry_tuple_iterator_next ?_ (F.args_tuple_iterator_next_1 _)));unfold Builtin.«tuple_iterator.__next__»;wp_walk using wpAny_field ho hd (x:=.ref t) rfl,wpAny_field ho hd (x:=.int i 0) rfl,wpAny_seqItems hot hdt;simp only [zy,hx];wp_walk using wpAny_setField ho hd (by simp);exact ⟨x,rfl,wpAny_pure new⟩
theorem MU {it t:Addr}{i:Nat}{items}{Q:Value->Shared->Prop}(hh:A.handled=none)(hit:s.heap.IsTupleIter it t i)(ht:s.heap.IsTuple t items)(hx:items[i]?=none)
  (hE:∀ h' e,Heap.ExtBut it s.heap h'->(∃ o,h'.get? e=some o/\o.cls=.type "StopIteration")->E (.ref e) { s with heap:=h' }):wpAny (model prog w) A (Builtin.SmallTypes.nextOf (.ref it)) Q E s:=by
 have ty:=hit.typeIs (s:=s);obtain ⟨o,ho,hc,hd⟩:=hit;obtain ⟨ot,hot,_,n,hdt⟩:=ht;have hh1:A.in1.handled=none:=hh;unfold Builtin.SmallTypes.nextOf;refine wpAny_bind (wpAny_callSpecial?_slot ty F.slot_tuple_iterator_next (wpAny_call_entry F.slot_tuple_iterator_next ty F.entry_tuple_iterator_next ?_ (F.args_tuple_iterator_next_1 _)));unfold Builtin.«tuple_iterator.__next__»;wp_walk using wpAny_field ho hd (x:=.ref t) rfl,wpAny_field ho hd (x:=.int i 0) rfl,wpAny_seqItems hot hdt;simp only [zy,hx];wp_walk using wpAny_setField ho hd (by simp);simp only [raiseNew];refine wpAny_bind (wpAny_handled ?_);rw [hh1];exact wpAny_bind (wpAny_pure (wpAny_throw (hE _ _ (((Heap.SameBut.update ..).extBut.push _).push _) ⟨_,Heap.get?_push_size _ rfl,rfl⟩)))
end
theorem VI {prog:Program}{w:World}{A:Around}(hh:A.handled=none)(it t:Addr)(L3:t≠it)(items:Array Value) :
  Draws prog w A it [it,t] items.size (λi v=>items[i]?=some v) (λi h=>h.IsTupleIter it t i/\h.IsTuple t items) where
 live:=λ_ _ st=>let ⟨⟨o,ho,_⟩,_⟩:=st;⟨o,ho⟩
 frame:=λ_ _ _ st hk=>let ⟨⟨o,ho,r⟩,o',pD,r'⟩:=st;⟨⟨o,hk it (by simp) o ho,r⟩,o',hk t (by simp) o' pD,r'⟩
 item:=λi s Q E hi st hQ=>UO st.1 st.2 (Array.getElem?_eq_getElem hi) λh' a b=>hQ _ h' s.toks (Array.getElem?_eq_getElem hi) ⟨a,st.2.extBut b.extBut L3⟩ b
 done:=λs Q E st hE=>MU hh st.1 st.2 (Array.getElem?_eq_none (zD _)) hE
theorem VJ {prog:Program}{w:World}{A:Around}(hh:A.handled=none)(it t:Addr)(items:Array Value) :
  Draws prog w A it [it,t] 0 (λ_ _=>False) (λ_ h=>∃ j,h.IsTupleIter it t j/\h.IsTuple t items/\items[j]?=none) where
 live:=λ_ _ st=>let ⟨_,⟨o,ho,_⟩,_⟩:=st;⟨o,ho⟩
 frame:=λ_ _ _ st hk=>let ⟨j,⟨o,ho,r⟩,⟨o',pD,r'⟩,z⟩:=st;⟨j,⟨o,hk it (by simp) o ho,r⟩,⟨o',hk t (by simp) o' pD,r'⟩,z⟩
 item:=λi s Q E hi _ _=>absurd hi (yJ _)
 done:=λs Q E st hE=>let ⟨_,a,b,c⟩:=st;MU hh a b c hE
section
variable {prog:Program}{w:World}{A:Around}{E:Value->Shared->Prop}{s:Shared}
theorem Ow (l:Addr)(items:Array Value)(o:Obj) :
  Meets (Builtin.«enumerate.__new__» ⟨[.type "enumerate", .ref l],[]⟩) (λ_ R s=>(s.heap.get? l=some o/\s.heap.IsTuple l items) /\
   R (.ok (.ret (.ref (s.heap.push { cls:=.type "tuple_iterator", data:=.fields #[.ref l,.int 0 0] }).objs.size)))
    { s with heap:=(s.heap.push { cls:=.type "tuple_iterator", data:=.fields #[.ref l,.int 0 0] }).push { cls:=.type "enumerate", data:=.fields #[.none,.bool false,.ref s.heap.objs.size,rawInt 0,.none,.none] } }):=
 .of_wp λprog w A R s ⟨⟨hl,hL⟩,h⟩=>by
  obtain ⟨hp,g,d,tk,os⟩:=s;have aeh:=sub_enumerate;wp_walk using wpAny_loadPart' hl;refine wpAny_stack_any λst=>wpAny_pure ?_;split
  ·rename_i c _ _ _ _ _;cases (c == Value.type "enumerate") <;> (wp_walk using wpAny_loadPart' hl,wpAny_pyIter_tuple hL) <;> exact ⟨_,rfl,h⟩
  ·wp_walk using wpAny_loadPart' hl,wpAny_pyIter_tuple hL;exact ⟨_,rfl,h⟩
theorem Ml {l:Addr}{items:Array Value}{Q:Value->Shared->Prop}(hL:s.heap.IsTuple l items)
  (h:∀ h',IsEnum h' (s.heap.objs.size + 1) s.heap.objs.size 0 .none->h'.IsTupleIter s.heap.objs.size l 0 ->
   (∀ b o,s.heap.get? b=some o->h'.get? b=some o)->Q (.ref (s.heap.objs.size + 1)) { s with heap:=h' }) :
  wpAny (model prog w) A (call (.type "enumerate") [.ref l]) Q E s:=by
 obtain ⟨o,hl,_⟩:=id hL;refine callType_new F.called_enumerate (by decide) (F.typeCall_enumerate_1 _) (F.newCall_enumerate_1 _) (λobj=>F.args_object_init_2 obj _) F.entry_enumerate_new (Ow l items o) ⟨⟨hl,hL⟩,?_⟩;generalize hG:s.heap.push { cls:=.type "tuple_iterator", data:=.fields #[.ref l,.int 0 0] }=G;have hz:G.objs.size=s.heap.objs.size + 1:=by rw [<-hG,Heap.size_push]
 have hi:G.get? s.heap.objs.size=some { cls:=.type "tuple_iterator", data:=.fields #[.ref l,.int 0 0] }:=by rw [<-hG];exact Heap.get?_push_size _ rfl
 have he:=Heap.get?_push_size G (o:={ cls:=.type "enumerate", data:=.fields #[.none,.bool false,.ref s.heap.objs.size,rawInt 0,.none,.none] }) rfl;rw [hz] at he;show _/\_;rw [hz];exact ⟨⟨_,he,rfl⟩,h _ he ⟨_,Heap.get?_push_of_some _ hi,rfl,rfl⟩ λb o x=>Heap.get?_push_of_some _ (by rw [<-hG];exact Heap.get?_push_of_some _ x)⟩
end
noncomputable def sy (K:PySem.W.Frag)(a:Addr):It:=
 ⟨λi H=>∃ xs x,cD K H a xs/\xs[i]?=some x,λi H y H'=>∃ p x,H p=none/\y=.ref p/\H'=upd H p (.tup [.int i,x])/\∀ xs,cD K H a xs->xs[i]?=some x,λi H=>∃ xs,cD K H a xs/\xs.length<=i⟩
theorem vh {P:Program}{w:World}{K:PySem.W.Frag}{es:List Expr}{k:Nat}{pos:Pos}(a e it:Addr)(L3:e≠it) :
  Turn P w K (.Tuple es k pos) (sy K a) [e,it] e (λi h=>(∃ old,IsEnum h e it i old)/\h.IsTupleIter it a i) where
 mem:=by simp
 obj:=λi h st b hb=>by
  obtain ⟨⟨old,he⟩,o,hi,c,d⟩:=st;rcases zH.mp hb with z | z
  ·subst z;exact ⟨_,he,λv q=>nomatch q⟩
  ·have z':b=it:=by simpa using z
   subst z';exact ⟨o,hi,λv q=>by rw [d] at q;cases q⟩
 keep:=λi h h' st q=>by
  obtain ⟨⟨old,he⟩,o,hi,r⟩:=st;exact ⟨⟨old,q e (by simp) _ he⟩,o,q it (by simp) o hi,r⟩
 item:=by
  intro X hP hw hK hc i aa s σ H E I hf st hg;subst hP hw hK;obtain ⟨xs,x,hq,hx⟩:=hg;obtain ⟨aC,rv,p,hz⟩:=I.tuple hq;obtain ⟨u,hu,ru⟩:=rv.get hx;obtain ⟨⟨old,he⟩,hi⟩:=st;obtain ⟨e0,e1,e2,e3,e4,e5⟩:=hf e (by simp);obtain ⟨f0,f1,f2,f3,f4,f5⟩:=hf it (by simp);have el:e < s.heap.objs.size:=Heap.lt_size he;have il:it < s.heap.objs.size:=let ⟨_,z,_⟩:=hi;Heap.lt_size z;have ht:s.heap.IsTuple a aC.toArray:=p;have hal:a < s.heap.objs.size:=let ⟨_,z,_⟩:=ht;Heap.lt_size z;have hai:a≠it:=λz=>by
   obtain ⟨o1,z1,c1,_⟩:=ht;obtain ⟨o2,z2,c2,_⟩:=hi;rw [z,z2] at z1;cases z1;rw [c2] at c1;exact absurd (Value.type.inj c1) (by decide)
  have hae:e ∉ [it,a]:=λz=>by
   rcases zH.mp z with z | z
   ·exact L3 z
   ·have z':e=a:=by simpa using z
    obtain ⟨o1,z1,c1,_⟩:=ht;rw [<-z',he] at z1;cases z1;exact absurd (Value.type.inj c1) (by decide)
  refine wpAny_pyNext_enum_itemD (VI (A:=X.A.in1) (I.ok.hd hc) it a hai aC.toArray) he ⟨hi,ht⟩ (by simpa using (zC.mp hu).1) L3 hae λu1 h1 tk hu1 ho aaa hT hsz hk=>?_;have eu:u=u1:=by
   have q:aC.toArray[i]?=some u:=by simpa using hu
   have Xw:aC.toArray[i]?=some u1:=hu1;rw [q] at Xw;exact Option.some.inj Xw
  subst eu;have hi1:=aaa.1;refine ⟨_,rfl,?_⟩;refine wpAny_letOwnedTupleGo_enum ho λh2 XQ M7=>?_;have LX:Heap.SameBut e h1 h2:=M7;have nJ:∀ b o,b≠e->b≠it->s.heap.get? b=some o->h2.get? b=some o:=λb o hb kM q=>LX.extBut b o hb (hk b o hb kM q);have XX:h2.get? s.heap.objs.size=some { cls:=.type "tuple", data:=.seq #[.int i tk,u] }:=LX.extBut _ _ (yQ el) hT;have nT:H s.heap.objs.size=none:=I.aY.fresh (zD _);refine ⟨.ref s.heap.objs.size,upd H s.heap.objs.size (.tup [.int i,x]),?_,rfl,⟨_,x,nT,rfl,rfl,λys hy=>by rw [I.pR hy hq];exact hx⟩,⟨⟨u,by simpa using XQ⟩,?_⟩,λb hb=>?_⟩
  ·have rG:∀ b,b ∉ [e,it]->b≠e/\b≠it:=λb hb=>⟨λz=>hb (by simp [z]),λz=>hb (by simp [z])⟩;refine Inv.step (s:=s) (h':=h2) (g':=s.gens) (d':=s.drawn) (t':=tk + 1) (ch:=[e,it]) I (λb hb=>?_) (λb o _ _ hb q _=>nJ b o (rG b hb).1 (rG b hb).2 q) (λb o _ _ hb q _=>⟨o.slots,nJ b o (rG b hb).1 (rG b hb).2 q⟩)
    (λb o _ q n=>by rw [xj (zV (Heap.lt_size q))];exact n) (λb o hb q=>⟨o,nJ b o (rG b hb).1 (rG b hb).2 q⟩)
    (λb ys q=>by rw [xj (xh q nT)];exact q) (λb o v q=>by rw [xj (xh q nT)];exact q) (λb ps q=>⟨#[],by rw [xj (xh q nT),q];simp⟩)
    (λm hm=>by
     obtain ⟨o,es',ep,q,r⟩:=hm;exact ⟨o,es',ep,nJ _ o (Ne.symm e1) (Ne.symm f1) q,r⟩) (λb v q=>?_) I.bare
   ·rcases zH.mp hb with z | z
    ·subst z;exact ⟨e3,e1,e4,e5⟩
    ·have z':b=it:=by simpa using z
     subst z';exact ⟨f3,f1,f4,f5⟩
   ·by_cases hb:b=s.heap.objs.size
    ·subst hb;rw [xb] at q;cases q;exact ⟨⟨by show 2<=sizeLine;rw [sizeLine_eq];decide,λob e=>by rw [XX] at e;cases e;rfl⟩,[.int i tk,u],.cons ⟨_,rfl⟩ (.cons ru .nil),⟨_,XX,rfl,_,rfl⟩⟩
    ·rw [xj hb] at q;refine (I.aY b v q).dJ (λc ob hc qc=>nJ c ob ?_ ?_ qc) (λc qc=>by rw [xj (xh qc nT)];exact qc) λc ys qc=>by rw [xj (xh qc nT)];exact qc
     ·rcases hc with z | z
      ·subst z;exact xh q e0
      ·exact xh z e0
     ·rcases hc with z | z
      ·subst z;exact xh q f0
      ·exact xh z f0
  ·obtain ⟨o,q,r⟩:=hi1;exact ⟨o,LX.extBut it o (Ne.symm L3) q,r⟩
  ·rcases zH.mp hb with z | z
   ·subst z;rw [xj (zV el)];exact e0
   ·have z':b=it:=by simpa using z
    subst z';rw [xj (zV il)];exact f0
 done:=by
  intro X hP hw hK hc i aa s σ H E I hf st hg;subst hP hw hK;obtain ⟨xs,hq,hx⟩:=hg;obtain ⟨aC,rv,p,hz⟩:=I.tuple hq;obtain ⟨⟨old,he⟩,hi⟩:=st;obtain ⟨f0,f1,f2,f3,f4,f5⟩:=hf it (by simp);have hl:=rv.length;have ht:s.heap.IsTuple a aC.toArray:=p;have hai:a≠it:=λz=>by
   obtain ⟨o1,z1,c1,_⟩:=ht;obtain ⟨o2,z2,c2,_⟩:=hi;rw [z,z2] at z1;cases z1;rw [c2] at c1;exact absurd (Value.type.inj c1) (by decide)
  exact wpAny_pyNext_enum_endD (VJ (A:=X.A.in1) (I.ok.hd hc) it a aC.toArray) he ⟨i,hi,ht,by simp;omega⟩ λh' eb=>⟨rfl,I.turned (t':=s.toks) (λb o hb e=>eb b o hb e) f0 f1 f3 f4 f5⟩
 self:=λ_ _ _ _ _ st h=>let ⟨⟨_,he⟩,_⟩:=st;wpAny_pyIter_enum he h
noncomputable def Vc (K:PySem.W.Frag)(ta:TA):TI:=fun σ H R=>ta σ H λvs H1=>∃ a,vs=[.ref a]/\(∃ xs,cD K H1 a xs)/\R (sy K a) H1
theorem nG {X:Cx}{a:Expr}{ta:TA}{p pos UE:Pos}{es:List Expr}{k:Nat}{K:PySem.W.Frag}(hK:X.K=K)(hg:Gl X "enumerate")(hm:X.mg "enumerate" = none)(ha:PA X [a] ta)(hs:starEach [a] X.env=[(false,eval a X.env)]:=by rfl) :
  PI X (.Tuple es k UE) (.Call (.Name "enumerate" p) [a] [] pos) (Vc K ta):=by
 subst hK;intro aa s σ H R I h;refine Call_ (fX I hg hm boot_enumerate (yR (bu (ha pos aa s σ H _ I h) λus s1 ⟨vs,H1,I1,r1,q1⟩=>?_) hs rfl));obtain ⟨l,e,⟨xs,hq⟩,q⟩:=q1;subst e;cases r1 with
 | cons r rr=>
  cases rr;cases r;obtain ⟨aC,rv,p,hz⟩:=I1.tuple hq;refine Ml (show s1.heap.IsTuple l aC.toArray from p) λh' he hi hk=>?_;refine wpAny_pyIter_enum he ?_;have I2:Inv X aa σ H1 { s1 with heap:=h' }:=I1.kept (t':=s1.toks) hk;refine ⟨s1.heap.objs.size + 1,[s1.heap.objs.size + 1,s1.heap.objs.size],_,_,H1,rfl,I2,vh l _ _ (Nat.succ_ne_self _),⟨⟨_,he⟩,hi⟩,λb hb=>?_,q⟩;have kM:s1.heap.objs.size<=b:=by
   rcases zH.mp hb with z | z
   ·subst z;exact xC _
   ·have z':b=s1.heap.objs.size:=by simpa using z
    subst z';exact zD _
  exact I1.Ot kM (I1.aY.fresh kM)
noncomputable def OI (K:PySem.W.Frag)(a:Addr):It:=
 ⟨λi H=>∃ xs x,aL K H a xs/\xs[i]?=some x,λi H y H'=>∃ p x,H p=none/\y=.ref p/\H'=upd H p (.tup [.int i,x])/\∀ xs,aL K H a xs->xs[i]?=some x,λi H=>∃ xs,aL K H a xs/\xs.length<=i⟩
theorem vj {P:Program}{w:World}{K:PySem.W.Frag}{es:List Expr}{k:Nat}{pos:Pos}(a e it:Addr)(L3:e≠it) :
  Turn P w K (.Tuple es k pos) (OI K a) [e,it] e (λi h=>(∃ old,IsEnum h e it i old)/\h.IsListIter it a i) where
 mem:=by simp
 obj:=λi h st b hb=>by
  obtain ⟨⟨old,he⟩,o,hi,c,d⟩:=st;rcases zH.mp hb with z | z
  ·subst z;exact ⟨_,he,λv q=>nomatch q⟩
  ·have z':b=it:=by simpa using z
   subst z';exact ⟨o,hi,λv q=>by rw [d] at q;cases q⟩
 keep:=λi h h' st q=>by
  obtain ⟨⟨old,he⟩,o,hi,r⟩:=st;exact ⟨⟨old,q e (by simp) _ he⟩,o,q it (by simp) o hi,r⟩
 item:=by
  intro X hP hw hK hc i aa s σ H E I hf st hg;subst hP hw hK;obtain ⟨xs,x,hq,hx⟩:=hg;obtain ⟨aC,rv,p,hz⟩:=I.list hq;obtain ⟨u,hu,ru⟩:=rv.get hx;obtain ⟨⟨old,he⟩,hi⟩:=st;obtain ⟨e0,e1,e2,e3,e4,e5⟩:=hf e (by simp);obtain ⟨f0,f1,f2,f3,f4,f5⟩:=hf it (by simp);have el:e < s.heap.objs.size:=Heap.lt_size he;have il:it < s.heap.objs.size:=let ⟨_,z,_⟩:=hi;Heap.lt_size z;refine wpAny_pyNext_enum_item he hi p.isList (x:=u) (by simpa using hu) L3 λh1 ho hi1 hT hsz hk=>?_;obtain ⟨tk,YN⟩:∃ tk,tk=s.toks:=⟨_,rfl⟩;rw [<-YN] at hT ⊢;refine ⟨_,rfl,?_⟩;refine wpAny_letOwnedTupleGo_enum ho λh2 XQ M7=>?_;have LX:Heap.SameBut e h1 h2:=M7;have nJ:∀ b o,b≠e->b≠it->s.heap.get? b=some o->h2.get? b=some o:=λb o hb kM q=>LX.extBut b o hb (hk b o hb kM q);have XX:h2.get? s.heap.objs.size=some { cls:=.type "tuple", data:=.seq #[.int i tk,u] }:=LX.extBut _ _ (yQ el) hT;have nT:H s.heap.objs.size=none:=I.aY.fresh (zD _);refine ⟨.ref s.heap.objs.size,upd H s.heap.objs.size (.tup [.int i,x]),?_,rfl,⟨_,x,nT,rfl,rfl,λys hy=>by rw [I.ud hy hq];exact hx⟩,⟨⟨u,by simpa using XQ⟩,?_⟩,λb hb=>?_⟩
  ·have rG:∀ b,b ∉ [e,it]->b≠e/\b≠it:=λb hb=>⟨λz=>hb (by simp [z]),λz=>hb (by simp [z])⟩;refine Inv.step (s:=s) (h':=h2) (g':=s.gens) (d':=s.drawn) (t':=tk + 1) (ch:=[e,it]) I (λb hb=>?_) (λb o _ _ hb q _=>nJ b o (rG b hb).1 (rG b hb).2 q) (λb o _ _ hb q _=>⟨o.slots,nJ b o (rG b hb).1 (rG b hb).2 q⟩)
    (λb o _ q n=>by rw [xj (zV (Heap.lt_size q))];exact n) (λb o hb q=>⟨o,nJ b o (rG b hb).1 (rG b hb).2 q⟩)
    (λb ys q=>by rw [xj (xh q nT)];exact q) (λb o v q=>by rw [xj (xh q nT)];exact q) (λb ps q=>⟨#[],by rw [xj (xh q nT),q];simp⟩)
    (λm hm=>by
     obtain ⟨o,es',ep,q,r⟩:=hm;exact ⟨o,es',ep,nJ _ o (Ne.symm e1) (Ne.symm f1) q,r⟩) (λb v q=>?_) I.bare
   ·rcases zH.mp hb with z | z
    ·subst z;exact ⟨e3,e1,e4,e5⟩
    ·have z':b=it:=by simpa using z
     subst z';exact ⟨f3,f1,f4,f5⟩
   ·by_cases hb:b=s.heap.objs.size
    ·subst hb;rw [xb] at q;cases q;exact ⟨⟨by show 2<=sizeLine;rw [sizeLine_eq];decide,λob e=>by rw [XX] at e;cases e;rfl⟩,[.int i tk,u],.cons ⟨_,rfl⟩ (.cons ru .nil),⟨_,XX,rfl,_,rfl⟩⟩
    ·rw [xj hb] at q;refine (I.aY b v q).dJ (λc ob hc qc=>nJ c ob ?_ ?_ qc) (λc qc=>by rw [xj (xh qc nT)];exact qc) λc ys qc=>by rw [xj (xh qc nT)];exact qc
     ·rcases hc with z | z
      ·subst z;exact xh q e0
      ·exact xh z e0
     ·rcases hc with z | z
      ·subst z;exact xh q f0
      ·exact xh z f0
  ·obtain ⟨o,q,r⟩:=hi1;exact ⟨o,LX.extBut it o (Ne.symm L3) q,r⟩
  ·rcases zH.mp hb with z | z
   ·subst z;rw [xj (zV el)];exact e0
   ·have z':b=it:=by simpa using z
    subst z';rw [xj (zV il)];exact f0
 done:=by
  intro X hP hw hK hc i aa s σ H E I hf st hg;subst hP hw hK;obtain ⟨xs,hq,hx⟩:=hg;obtain ⟨aC,rv,p,hz⟩:=I.list hq;obtain ⟨⟨old,he⟩,hi⟩:=st;obtain ⟨f0,f1,f2,f3,f4,f5⟩:=hf it (by simp);have hl:=rv.length;exact wpAny_pyNext_enum_end (I.ok.hd hc) he hi p.isList (by simp;omega) λh' eb=>⟨rfl,I.turned (t':=s.toks) (λb o hb e=>eb b o hb e) f0 f1 f3 f4 f5⟩
 self:=λ_ _ _ _ _ st h=>let ⟨⟨_,he⟩,_⟩:=st;wpAny_pyIter_enum he h
noncomputable def Vd (K:PySem.W.Frag)(ta:TA):TI:=fun σ H R=>ta σ H λvs H1=>∃ a,vs=[.ref a]/\(∃ xs,aL K H1 a xs)/\R (OI K a) H1
theorem tM {X:Cx}{a:Expr}{ta:TA}{p pos UE:Pos}{es:List Expr}{k:Nat}{K:PySem.W.Frag}(hK:X.K=K)(hg:Gl X "enumerate")(hm:X.mg "enumerate" = none)(ha:PA X [a] ta)(hs:starEach [a] X.env=[(false,eval a X.env)]:=by rfl) :
  PI X (.Tuple es k UE) (.Call (.Name "enumerate" p) [a] [] pos) (Vd K ta):=by
 subst hK;intro aa s σ H R I h;refine Call_ (fX I hg hm boot_enumerate (yR (bu (ha pos aa s σ H _ I h) λus s1 ⟨vs,H1,I1,r1,q1⟩=>?_) hs rfl));obtain ⟨l,e,⟨xs,hq⟩,q⟩:=q1;subst e;cases r1 with
 | cons r rr=>
  cases rr;cases r;obtain ⟨aC,rv,p,hz⟩:=I1.list hq;refine call_enumerate_list p.isList λh' he hi hsz hk=>?_;refine wpAny_pyIter_enum he ?_;have I2:Inv X aa σ H1 { s1 with heap:=h' }:=I1.kept (t':=s1.toks) hk;refine ⟨s1.heap.objs.size + 1,[s1.heap.objs.size + 1,s1.heap.objs.size],_,_,H1,rfl,I2,vj l _ _ (Nat.succ_ne_self _),⟨⟨_,he⟩,hi⟩,λb hb=>?_,q⟩;have kM:s1.heap.objs.size<=b:=by
   rcases zH.mp hb with z | z
   ·subst z;exact xC _
   ·have z':b=s1.heap.objs.size:=by simpa using z
    subst z';exact zD _
  exact I1.Ot kM (I1.aY.fresh kM)
noncomputable def jr (H:Hp):V->Option String
 | .cI=>some "NoneType"
 | .bl _=>some "bool"
 | .int _=>some "int"
 | .str _=>some "str"
 | .ref a=>match H a with
  | some (.lst _)=>some "list"
  | some (.oW _ (.lst _))=>some "list"
  | some (.tup _)=>some "tuple"
  | some (.dK _)=>some "dict"
  | _=>none
 | _=>none
theorem Ua {K:PySem.W.Frag}{H:Hp}{x:V}{t:String}(h:jr H x=some t):kT K H x (.type t):=by
 cases x with
 | cI=>cases h;exact .cI
 | bl b=>cases h;exact .bl b
 | int i=>cases h;exact .int i
 | str x=>cases h;exact .str x
 | ref a=>
  unfold jr at h;dsimp only at h;split at h
  ·rename_i e;cases h;exact .lst e
  ·rename_i e;cases h;exact .oW e
  ·rename_i e;cases h;exact .tup e
  ·rename_i e;cases h;exact .dK e
  ·cases h
 | _=>cases h
theorem lX {H:Hp}{x:V}{t:String}(h:jr H x=some t):t = "NoneType" \/ t = "bool" \/ t = "int" \/ t = "str" \/ t = "list" \/ t = "tuple" \/ t = "dict" := by
 cases x with
 | ref a=>
  unfold jr at h;dsimp only at h;split at h <;> cases h <;> simp
 | _=>cases h <;> simp
noncomputable def To (t T:String):Bool:=t == T || (t == "bool" && T == "int")
theorem U1 {K:PySem.W.Frag}{t T:String}(h:t = "NoneType" \/ t = "bool" \/ t = "int" \/ t = "str" \/ t = "list" \/ t = "tuple" \/ t = "dict")(hT:T = "int" \/ T = "bool" \/ T = "list" \/ T = "tuple"):PySem.W.kitOne K (.type t) (.type T)=some (To t T):=by rcases h with rfl | rfl | rfl | rfl | rfl | rfl | rfl <;> rcases hT with rfl | rfl | rfl | rfl <;> first | rfl | decide +kernel
section
variable {X:Cx}
theorem wQ:dZ X (.builtin "isinstance") (λxs H Q=>∃ x t T,xs=[x,.ty T]/\jr H x=some t/\(T = "int" \/ T = "bool" \/ T = "list" \/ T = "tuple")/\Q (.bl (To t T)) H):=by intro aa s σ H xs us Q I r h;obtain ⟨x,t,T,rfl,ht,hT,q⟩:=h;obtain ⟨u,w',rfl,r1,r2⟩:=vals2 r;cases r2;exact Og I r1 (Ua ht) (U1 (lX ht) hT) λtk=>⟨.bl _,H,I.tok tk,rfl,q⟩
theorem qA:gO X (binaryOp .FloorDiv) (rI (λ_ j=>0 < j/\j < 2 ^ 200) λi j=>.int (i / j)):=YC λi j _ _ _ _ _ hc q=>by
 have e:i.fdiv j=i / j:=Int.fdiv_eq_ediv_of_nonneg _ (by omega);rw [<-e] at q;refine floordiv_int (by omega) q (.inl (PyProof.noPylong_of_log2 ?_));have h0:j.natAbs≠0:=by omega
 have h1:j.natAbs < 2 ^ 200:=by omega
 have:=(Nat.log2_lt h0).mpr h1;omega
theorem P0 (hu:X.A.units + 64 < cLine):gO X (compareOp .NotEq) (λx y H Q=>∃ a b xs,x=.ref a/\y=.ref b/\aL X.K H a xs/\aL X.K H b []/\Q (.bl (!xs.isEmpty)) H):=by
 intro aa s σ H x y v u Q I rx ry h;obtain ⟨a,b,xs,rfl,rfl,ha,hb,q⟩:=h;cases rx;cases ry;obtain ⟨aC,r,p,_⟩:=I.list ha;obtain ⟨fG,r2,p2,_⟩:=I.list hb;cases r2;cases r with
 | nil=>exact SeqAt.RcNeAt.lists (e:=λ_=>true) p.isList p2.isList rfl (by omega) (λj h1=>absurd h1 (yJ _)) _ _ _ _ ⟨.bl _,H,I,rfl,q⟩
 | cons r1 rr=>exact SeqAt.RcNeAt.lists_lengths p.isList p2.isList (by simp) (by omega) _ _ _ _ ⟨.bl _,H,I,rfl,q⟩
theorem N1 (hu:X.A.units + 64 < cLine):gO X (compareOp .Eq) (λx y H Q=>∃ a b xs,x=.ref a/\y=.ref b/\cD X.K H a xs/\cD X.K H b []/\Q (.bl xs.isEmpty) H):=by
 intro aa s σ H x y v u Q I rx ry h;obtain ⟨a,b,xs,rfl,rfl,ha,hb,q⟩:=h;cases rx;cases ry;obtain ⟨aC,r,p,_⟩:=I.tuple ha;obtain ⟨fG,r2,p2,_⟩:=I.tuple hb;cases r2;have q':Q (.bl ((List.range (min aC.toArray.size ([]:List Value).toArray.size)).all (λ_=>true) && aC.toArray.size == ([]:List Value).toArray.size)) H:=by
  cases r with
  | nil=>simpa using q
  | cons r1 rr=>simpa using q
 exact SeqAt.RcAt.tuples (e:=λ_=>true) p p2 (by omega) (λj h1 h2=>absurd h2 (yJ _)) _ _ _ _ ⟨.bl _,H,I,rfl,q'⟩
variable {K:PySem.W.Frag}
theorem wJ {es:List Expr}{k:Nat}{t:Rq}{n:Nat}{pos:Pos}(hK:X.K=K)(hc:X.calm=true)(h:Wr X es t)
  (hn:(assignEach es X.env).length=n:=by rfl) (M6:(assignEach es X.env).findIdx? (·.1)=none:=by rfl):PG X (.Tuple es k pos) (uw K n t):=by subst hK;exact UH hc h hn M6
theorem wR {tg l:Expr}{tl:TE}(hK:X.K=K)(hl:PE X l tl):PI X tg l (Tq K tl):=by subst hK;exact R8 hl
theorem PM {tg l:Expr}{tl:TE}(hK:X.K=K)(hl:PE X l tl):PI X tg l (Xp K tl):=by subst hK;exact UG hl
theorem wD (hK:X.K=K):Ys X (tH K):=by subst hK;exact Sv
theorem wK (hK:X.K=K):Ys X (tG K):=by subst hK;exact U7
theorem Pp (hK:X.K=K):SlR X (WU K):=by subst hK;exact RO
theorem fW (hK:X.K=K):gO X (compareOp .In) (YA K false):=by subst hK;exact NZ
theorem xx (hK:X.K=K):dZ X (.builtin "len") (λxs H Q=>∃ p ys,xs=[.ref p]/\(aL K H p ys\/cD K H p ys)/\Q (.int ys.length) H):=by subst hK;exact rZ
theorem dh (hK:X.K=K):dZ X (.type "list") (λxs H Q=>∃ p ys,xs=[.ref p]/\(aL K H p ys\/cD K H p ys)/\∀ l,H l=none->Q (.ref l) (upd H l (.lst ys))):=by subst hK;exact rY
end
theorem oi {X:Cx}{K:PySem.W.Frag}(hK:X.K=K):Yo X (λo i H Q=>∃ p xs v,∃ k:Nat,o=.ref p/\i=.int k/\aL K H p xs/\xs[k]?=some v/\Q v H):=by subst hK;intro aa s σ H o i ov iv Q I ro ri h;obtain ⟨p,xs,v,k,rfl,rfl,hq,hv,q⟩:=h;cases ro;obtain ⟨t,rfl⟩:=ri;obtain ⟨aC,r,pl,hz⟩:=I.list hq;obtain ⟨w,ew,Pr⟩:=r.get hv;have hk:k < xs.length:=(zC.mp hv).1;have hn:=nR;exact wpAny_getItem_list pl.isList (by omega) (by omega) (by simpa using ew) ⟨v,H,I,Pr,q⟩
end L2
namespace aZ
open PySem PySem.W PyProof.Rows
noncomputable def gK {α:Type}(n:Nat)(c:Nat->Nat->Bool):KasT α->(α->Prop)->Prop
 | .ret a,P=>P a
 | .ask i j k,P=>i < n/\j < n/\gK n c (k (c i j)) P
theorem gK.bind {α β:Type}{n:Nat}{c:Nat->Nat->Bool}{f:α->KasT β}{P:β->Prop}:∀ (t:KasT α),gK n c t (λa=>gK n c (f a) P)->gK n c (t.bind f) P
 | .ret a,h=>h
 | .ask i j k,h=>⟨h.1,h.2.1,gK.bind (k (c i j)) h.2.2⟩
theorem gK.mono {α:Type}{n:Nat}{c:Nat->Nat->Bool}{P P':α->Prop}(hp:∀ a,P a->P' a):∀ (t:KasT α),gK n c t P->gK n c t P'
 | .ret a,h=>hp a h
 | .ask i j k,h=>⟨h.1,h.2.1,gK.mono hp (k (c i j)) h.2.2⟩
theorem gK.wp {α:Type}{n:Nat}{c:Nat->Nat->Bool}{P:α->Prop}{Q:α->Shared->Prop}{cmp:Nat->Nat->(Bool->Shared->Prop)->Shared->Prop}{s:Shared}
  (hc:∀ i j C,i < n->j < n->C (c i j) s->cmp i j C s) (hq:∀ a,P a->Q a s):∀ (t:KasT α),gK n c t P->t.kasWp cmp Q s
 | .ret a,h=>hq a h
 | .ask i j k,h=>hc i j _ h.1 h.2.1 (gK.wp hc hq (k (c i j)) h.2.2)
section
variable {n:Nat}{f:Nat->Int}
noncomputable def at' (p:Array Nat)(i:Nat):Nat:=(p[i]?).getD 0
theorem wX (p:Array Nat)(i:Nat):p.getD i 0=at' p i:=by unfold at';simp
noncomputable def g (f:Nat->Int)(p:Array Nat)(i:Nat):Int:=f (at' p i)
noncomputable def Pm (n:Nat)(p:Array Nat):Prop:=p.Perm (List.toArray (List.range n))
theorem Pm.size {p:Array Nat}(h:Pm n p):p.size=n:=by rw [Array.Perm.size_eq h];simp
theorem Pm.lt {p:Array Nat}(h:Pm n p){i:Nat}(hi:i < n):at' p i < n:=by
 have hs:=h.size;have e:at' p i=p[i]'(by omega):=by unfold at';simp [hs,hi]
 have hm:p[i]'(by omega)∈p:=Array.getElem_mem _;have oU:=(Array.Perm.mem_iff h).mp hm;rw [e];simpa using oU
theorem Pm.rev {p:Array Nat}(h:Pm n p)(i j:Nat):Pm n (kas_rev p i j):=(mirror_perm p i j _).trans h
theorem Pm.bub {p:Array Nat}(h:Pm n p)(k d:Nat):Pm n (bubble p k d):=(bubble_perm p k d).trans h
theorem Nb {p:Array Nat}{i j:Nat}(hj:j<=p.size)(k:Nat):g f (kas_rev p i j) k=if i<=k/\k < j then g f p (i + j - 1 - k) else g f p k:=by unfold g at' kas_rev;rw [getElem?_mirror_all hj k];split <;> rfl
theorem TR {p:Array Nat}{src d:Nat}(hs:src < p.size)(hd:d<=src)(k:Nat):g f (bubble p src d) k=if k=src - d then g f p src else if src - d < k/\k<=src then g f p (k - 1) else g f p k:=by
 unfold g at';rw [getElem?_bubble hs d hd k];split
 ·rfl
 ·split <;> rfl
noncomputable def Up (f:Nat->Int)(p:Array Nat)(k:Nat):Prop:=∀ i j,i<=j->j < k->g f p i<=g f p j
noncomputable def Dn (f:Nat->Int)(p:Array Nat)(k:Nat):Prop:=∀ i j,i<=j->j < k->g f p j<=g f p i
noncomputable def cf (f:Nat->Int)(i j:Nat):Bool:=decide (f i < f j)
theorem Mn {p:Array Nat}(hp:Pm n p):∀ (q m:Nat),1<=m->m + q<=n->Up f p m->gK n (cf f) (kas_asc p q m) (λm'=>m<=m'/\m'<=m + q/\Up f p m'/\(m' < m + q->g f p m' < g f p (m' - 1)))
 | 0,m,_,_,hu=>⟨zD _,zD _,hu,λh=>absurd h (z6 _)⟩
 | q + 1,m,h1,h2,hu=>by
  unfold kas_asc;refine ⟨by rw [wX];exact hp.lt (by omega),by rw [wX];exact hp.lt (by omega),?_⟩;rw [wX,wX];by_cases hc:g f p m < g f p (m - 1)
  ·have e:cf f (at' p m) (at' p (m - 1))=true:=decide_eq_true hc;rw [e];dsimp only;rw [if_pos rfl];exact ⟨zD _,by omega,hu,λ_=>hc⟩
  ·have e:cf f (at' p m) (at' p (m - 1))=false:=decide_eq_false hc;rw [e];dsimp only;rw [if_neg zO];refine gK.mono (λm' h=>⟨by omega,by omega,h.2.2.1,λz=>h.2.2.2 (by omega)⟩) _ (Mn hp q (m + 1) (by omega) (by omega) λi j ur hj=>?_);by_cases Vp:j < m
   ·exact hu i j ur Vp
   ·have ej:j=m:=by omega
    subst ej;by_cases hi:i=j
    ·subst hi;omega
    ·have:=hu i (j - 1) (by omega) (by omega);omega
noncomputable def Zl (f:Nat->Int)(p:Array Nat)(m q:Nat):Prop:=∀ i,m<=i + (q + 1)->i < m->g f p i=g f p (m - 1)
theorem nu {p:Array Nat}(hp:Pm n p){m q:Nat}(hm:m<=n)(hq:q + 1<=m)(hb:Zl f p m q)(k:Nat):g f (kas_rev p (m - (q + 1)) m) k=g f p k:=by
 rw [Nb (by rw [hp.size];exact hm)];split
 ·rename_i h;rw [hb _ (by omega) (by omega),hb k (by omega) (by omega)]
 ·rfl
theorem rV:∀ (t:Nat) (p:Array Nat) (m q:Nat),Pm n p->1<=m->m + t<=n->q + 1<=m->Dn f p m->Zl f p m q ->
  gK n (cf f) (kas_desc t p m q) (λr=>Pm n r.1/\m<=r.2.1/\r.2.1<=n/\r.2.2 + 1<=r.2.1/\Dn f r.1 r.2.1/\Zl f r.1 r.2.1 r.2.2)
 | 0,p,m,q,hp,h1,h2,h3,hd,hb=>⟨hp,zD _,by simpa using h2,h3,hd,hb⟩
 | t + 1,p,m,q,hp,h1,h2,h3,hd,hb=>by
  unfold kas_desc;refine ⟨by rw [wX];exact hp.lt (by omega),by rw [wX];exact hp.lt (by omega),?_⟩;rw [wX,wX];by_cases hc:g f p m < g f p (m - 1)
  ·have e:cf f (at' p m) (at' p (m - 1))=true:=decide_eq_true hc;rw [e];dsimp only;rw [if_pos rfl];have step:∀ p':Array Nat,Pm n p'->(∀ k,g f p' k=g f p k)->gK n (cf f) (kas_desc t p' (m + 1) 0) (λr=>Pm n r.1/\m<=r.2.1/\r.2.1<=n/\r.2.2 + 1<=r.2.1/\Dn f r.1 r.2.1/\Zl f r.1 r.2.1 r.2.2):=λp' Wb hg=>by
    refine gK.mono (λr h=>⟨h.1,by omega,h.2.2⟩) _ (rV t p' (m + 1) 0 Wb (by omega) (by omega) (by omega) (λi j ur hj=>?_) λi hi fm=>?_)
    ·rw [hg,hg];by_cases Vp:j < m
     ·exact hd i j ur Vp
     ·have ej:j=m:=by omega
      subst ej;by_cases hi:i=j
      ·subst hi;omega
      ·have:=hd i (j - 1) (by omega) (by omega);omega
    ·have:i=m + 1 - 1:=by omega
     rw [this]
   split
   ·exact step _ (hp.rev _ _) (nu hp (by omega) h3 hb)
   ·exact step _ hp λ_=>rfl
  ·have e:cf f (at' p m) (at' p (m - 1))=false:=decide_eq_false hc;rw [e];dsimp only;rw [if_neg zO];refine ⟨hp.lt (by omega),hp.lt (by omega),?_⟩;by_cases YU:g f p (m - 1) < g f p m
   ·have e2:cf f (at' p (m - 1)) (at' p m)=true:=decide_eq_true YU;rw [e2];dsimp only;rw [if_pos rfl];exact ⟨hp,zD _,by show m<=n;omega,h3,hd,hb⟩
   ·have e2:cf f (at' p (m - 1)) (at' p m)=false:=decide_eq_false YU;rw [e2];dsimp only;rw [if_neg zO];have eq:g f p m=g f p (m - 1):=by omega
    refine gK.mono (λr h=>⟨h.1,by omega,h.2.2⟩) _ (rV t p (m + 1) (q + 1) hp (by omega) (by omega) (by omega) (λi j ur hj=>?_) λi hi fm=>?_)
    ·by_cases Vp:j < m
     ·exact hd i j ur Vp
     ·have ej:j=m:=by omega
      subst ej;by_cases hi:i=j
      ·subst hi;omega
      ·have:=hd i (j - 1) (by omega) (by omega);omega
    ·rw [show m + 1 - 1=m from rfl];by_cases YT:i=m
     ·rw [YT]
     ·rw [hb i (by omega) (by omega),eq]
theorem sS {p:Array Nat}{m:Nat}(hp:Pm n p)(h1:1<=m)(hm:m<=n)(hd:Dn f p m):gK n (cf f) (kas_tail3 m n p) (λr=>Pm n r.2/\r.1<=n/\1<=r.1/\Up f r.2 r.1):=by unfold kas_tail3;have Wb:=hp.rev 0 m;refine gK.bind _ (gK.mono (λm' h=>⟨Wb,by omega,by omega,h.2.2.1⟩) _ (Mn Wb (n - m) m h1 (by omega) λi j ur hj=>?_));rw [Nb (by rw [hp.size];exact hm),Nb (by rw [hp.size];exact hm),if_pos ⟨by omega,by omega⟩,if_pos ⟨by omega,by omega⟩];exact hd _ _ (by omega) (by omega)
theorem lF {p:Array Nat}{m:Nat}(hp:Pm n p)(h1:1<=m)(hm:m < n)(hd:Dn f p (m + 1)):gK n (cf f) (kas_descPart m n p) (λr=>Pm n r.2/\r.1<=n/\1<=r.1/\Up f r.2 r.1):=by
 unfold kas_descPart;refine gK.bind _ (gK.mono (λr h=>?_) _ (rV (n - (m + 1)) p (m + 1) 0 hp (by omega) (by omega) (by omega) hd λi hi fm=>by rw [show i=m + 1 - 1 by omega]));obtain ⟨a1,a2,a3,a4,a5,a6⟩:=h;split
 ·exact sS (a1.rev _ _) (by omega) a3 λi j ur hj=>by
   rw [nu a1 a3 a4 a6,nu a1 a3 a4 a6];exact a5 i j ur hj
 ·exact sS a1 (by omega) a3 a5
theorem QN {p:Array Nat}(hn:1<=n)(hp:Pm n p):gK n (cf f) (kas_count n p) (λr=>Pm n r.2/\r.1<=n/\1<=r.1/\Up f r.2 r.1):=by
 unfold kas_count;refine gK.bind _ (gK.mono (λm h=>?_) _ (Mn hp (n - 1) 1 (zD _) (by omega) λi j ur hj=>by rw [show i=j by omega];omega));obtain ⟨a1,a2,a3,a4⟩:=h;split
 ·exact ⟨hp,by omega,a1,a3⟩
 ·rename_i L3;have fk:m < n:=by
   have:¬ m=n:=by simpa using L3
   omega
  have a4':=a4 (by omega);split
  ·rename_i hm1;refine ⟨by rw [wX];exact hp.lt (by omega),by rw [wX];exact hp.lt (by omega),?_⟩;rw [wX,wX];by_cases hc:g f p 0 < g f p (m - 1)
   ·have e:cf f (at' p 0) (at' p (m - 1))=true:=decide_eq_true hc;rw [e];dsimp only;rw [if_pos rfl];exact ⟨hp,by omega,a1,a3⟩
   ·have e:cf f (at' p 0) (at' p (m - 1))=false:=decide_eq_false hc;rw [e];dsimp only;rw [if_neg zO];have all:∀ k,k < m->g f p k=g f p 0:=λk hk=>by
     have:=a3 0 k (by omega) hk;have:=a3 k (m - 1) (by omega) (by omega);omega
    have gr:∀ k,g f (kas_rev p 0 m) k=g f p k:=λk=>by
     rw [Nb (by rw [hp.size];omega)];split
     ·rw [all _ (by omega),all k (by omega)]
     ·rfl
    refine lF (hp.rev _ _) a1 fk λi j ur hj=>?_;rw [gr,gr];by_cases Vp:j < m
    ·rw [all i (by omega),all j Vp];omega
    ·have ej:j=m:=by omega
     subst ej;by_cases hi:i=j
     ·subst hi;omega
     ·have:=all i (by omega);have:=all (j - 1) (by omega);omega
  ·refine lF hp a1 fk λi j ur hj=>?_;have em:m=1:=by omega
   subst em;by_cases hi:i=j
   ·subst hi;omega
   ·have e1:i=0:=by omega
    have e2:j=1:=by omega
    subst e1 e2;have:g f p 1 < g f p 0:=a4';omega
theorem nF {p:Array Nat}{k:Nat}(hp:Pm n p)(hk:k < n)(hu:Up f p k):∀ (t l r:Nat),l<=r->r<=k->r<=l + t->(∀ i,i < l->g f p i<=g f p k)->(∀ i,r<=i->i < k->g f p k < g f p i) ->
  gK n (cf f) (kas_place p k t l r) (λl'=>l'<=k/\(∀ i,i < l'->g f p i<=g f p k)/\∀ i,l'<=i->i < k->g f p k < g f p i)
 | 0,l,r,h1,h2,h3,ha,hb=>⟨by omega,ha,λi hi fm=>hb i (by omega) fm⟩
 | t + 1,l,r,h1,h2,h3,ha,hb=>by
  unfold kas_place;split
  ·exact ⟨by omega,ha,λi hi fm=>hb i (by omega) fm⟩
  ·rename_i Vm;refine ⟨by rw [wX];exact hp.lt hk,by rw [wX];exact hp.lt (by omega),?_⟩;rw [wX,wX];by_cases hc:g f p k < g f p ((l + r) / 2)
   ·have e:cf f (at' p k) (at' p ((l + r) / 2))=true:=decide_eq_true hc;rw [e];dsimp only;rw [if_pos rfl];refine nF hp hk hu t l ((l + r) / 2) (by omega) (by omega) (by omega) ha λi hi fm=>?_;have:=hu ((l + r) / 2) i (by omega) fm;omega
   ·have e:cf f (at' p k) (at' p ((l + r) / 2))=false:=decide_eq_false hc;rw [e];dsimp only;rw [if_neg zO];refine nF hp hk hu t ((l + r) / 2 + 1) r (by omega) (by omega) (by omega) (λi hi=>?_) hb;have:=hu i ((l + r) / 2) (by omega) (by omega);omega
theorem QX:∀ (t:Nat) (p:Array Nat) (k:Nat),Pm n p->k + t=n->Up f p k->gK n (cf f) (kas_bin t p k) (λp'=>Pm n p'/\Up f p' n)
 | 0,p,k,hp,hk,hu=>⟨hp,by rw [<-hk];exact hu⟩
 | t + 1,p,k,hp,hk,hu=>by
  unfold kas_bin;refine gK.bind _ (gK.mono (λl h=>?_) _ (nF hp (by omega) hu k 0 k (by omega) (by omega) (by omega) (λi hi=>absurd hi (yJ _)) λi hi fm=>absurd fm (by omega)));obtain ⟨a1,a2,a3⟩:=h;refine QX t _ (k + 1) (hp.bub _ _) (by omega) λi j ur hj=>?_;have hs:k < p.size:=by rw [hp.size];omega
  rw [TR hs (by omega),TR hs (by omega)];have el:k - (k - l)=l:=by omega
  rw [el];by_cases hil:i=l
  ·rw [if_pos hil];by_cases XN:j=l
   ·rw [if_pos XN];omega
   ·rw [if_neg XN,if_pos ⟨by omega,by omega⟩];have:=a3 (j - 1) (by omega) (by omega);omega
  ·rw [if_neg hil];by_cases YT:l < i/\i<=k
   ·rw [if_pos YT];rw [if_neg (by omega),if_pos ⟨by omega,by omega⟩];exact hu _ _ (by omega) (by omega)
   ·rw [if_neg YT];have hi3:i < l:=by omega
    by_cases XN:j=l
    ·rw [if_pos XN];exact a2 i hi3
    ·rw [if_neg XN];by_cases hj2:l < j/\j<=k
     ·rw [if_pos hj2];exact hu _ _ (by omega) (by omega)
     ·rw [if_neg hj2];exact hu _ _ ur (by omega)
theorem ME (hn:1<=n):gK n (cf f) (kas_sort n) (λp=>Pm n p/\Up f p n):=by
 unfold kas_sort;refine gK.bind _ (gK.mono (λr h=>?_) _ (QN hn (show Pm n (List.toArray (List.range n)) from Array.Perm.refl _)));obtain ⟨a1,a2,a3,a4⟩:=h;split
 ·have e:max r.1 1=r.1:=by omega
  rw [e];exact QX _ _ _ a1 (by omega) a4
 ·have e:r.1=n:=by omega
  exact ⟨a1,by rw [<-e];exact a4⟩
end
end aZ
namespace aZ
noncomputable def lx:List Int->List Int->Bool
 | [],[]=>false
 | [],_::_=>true
 | _::_,[]=>false
 | x::xs,y::ys=>if x=y then lx xs ys else decide (x < y)
theorem Qh:∀ r:List Int,lx r r=false
 | []=>rfl
 | x::xs=>by unfold lx;rw [if_pos rfl];exact Qh xs
theorem Qe:∀ {a b c:List Int},lx a b=true->lx b c=true->lx a c=true
 | [],[],_,h,_=>by cases h
 | [],_::_,[],_,h=>by cases h
 | [],_::_,_::_,_,_=>rfl
 | _::_,[],_,h,_=>by cases h
 | _::_,_::_,[],_,h=>by cases h
 | x::xs,y::ys,z::zs,h,h'=>by
  unfold lx at h h' ⊢;split at h
  ·split at h'
   ·rename_i e1 e2;rw [if_pos (e1.trans e2)];exact Qe h h'
   ·rename_i e1 e2;simp only [decide_eq_true_eq] at h';rw [if_neg (by omega)];simp only [decide_eq_true_eq];omega
  ·simp only [decide_eq_true_eq] at h;split at h'
   ·rename_i e1 e2;rw [if_neg (by omega)];simp only [decide_eq_true_eq];omega
   ·simp only [decide_eq_true_eq] at h';rw [if_neg (by omega)];simp only [decide_eq_true_eq];omega
theorem Qg:∀ {a b:List Int},lx a b=false->lx b a=false->a=b
 | [],[],_,_=>rfl
 | [],_::_,h,_=>by cases h
 | _::_,[],_,h=>by cases h
 | x::xs,y::ys,h,h'=>by
  unfold lx at h h';split at h
  ·rename_i e;subst e;rw [if_pos rfl] at h';rw [Qg h h']
  ·rename_i e;rw [if_neg λz=>e z.symm] at h';simp only [decide_eq_false_iff_not] at h h';omega
noncomputable def rk (rs:List (List Int))(r:List Int):Int:=((rs.countP λx=>lx x r:Nat):Int)
theorem kR {α:Type}{p q:α->Bool}{a:α}:∀ {l:List α},(∀ x,p x=true->q x=true)->a∈l->p a=false->q a=true->l.countP p < l.countP q
 | [],_,h,_,_=>by cases h
 | x::l,hpq,h,h1,h2=>by
  have hm:l.countP p<=l.countP q:=List.countP_mono_left λx _=>hpq x;rcases zH.mp h with rfl | h
  ·rw [List.countP_cons_of_neg (by rw [h1];exact zO),List.countP_cons_of_pos h2];omega
  ·have:=kR hpq h h1 h2;rw [List.countP_cons,List.countP_cons];cases e:p x with
   | true=>rw [hpq x e];simp;omega
   | false=>cases e2:q x <;> simp <;> omega
theorem ML {rs:List (List Int)}{a b:List Int}(ha:a∈rs):decide (rk rs a < rk rs b)=lx a b:=by
 unfold rk;cases h:lx a b with
 | true=>
  have:=kR (p:=λx=>lx x a) (q:=λx=>lx x b) (λx hx=>Qe hx h) ha (Qh a) h;simp only [decide_eq_true_eq];omega
 | false=>
  have hm:rs.countP (λx=>lx x b)<=rs.countP (λx=>lx x a):=List.countP_mono_left λx _ hx=>by
   cases h':lx b a with
   | true=>exact Qe hx h'
   | false=>rw [Qg h h'];exact hx
  simp only [decide_eq_false_iff_not];omega
end aZ
namespace L2
open PySem PySem.Spec PyProof.Rows PySem.W aZ
theorem bK.at {P:Program}{w:World}{H:Hp}{h:Heap}{a:Addr}{o:HO}(x:bK P w H h a o):∃ ob,h.get? a=some ob:=by
 cases o with
 | lst xs=>obtain ⟨_,_,_,_,e⟩:=x;exact ⟨_,e⟩
 | tup xs=>obtain ⟨_,_,_,ob,e,_⟩:=x;exact ⟨_,e⟩
 | dK aF=>obtain ⟨_,_,_,_,o,_,_,e,_⟩:=x;exact ⟨_,e⟩
 | dT aF=>obtain ⟨_,_,_,_,o,_,_,e,_⟩:=x;exact ⟨_,e⟩
 | set S n=>obtain ⟨o,_,_,_,e,_⟩:=x;exact ⟨_,e⟩
 | ins C dx fs=>obtain ⟨_,_,_,e,_⟩:=x;exact ⟨_,e⟩
 | own y=>obtain ⟨_,e⟩:=x;exact ⟨_,e⟩
 | xd fs=>obtain ⟨_,⟨_,_,_,e,_⟩,_⟩:=x;exact ⟨_,e⟩
 | WT lo hi=>obtain ⟨_,_,_,e⟩:=x;exact ⟨_,e⟩
 | oW ob u=>obtain ⟨e,_⟩:=x;exact ⟨_,e⟩
 | jv ps=>exact ⟨_,(show h.get? a=some _ from x)⟩
 | met f y=>exact ⟨_,(show h.get? a=some _ from x)⟩
 | ext φ=>obtain ⟨_,⟨_,e⟩,_⟩:=x;exact ⟨_,e⟩
section
variable {X:Cx}{aa:List (Addr×Obj)}{σ:St}{H:Hp}{s:Shared}
theorem Inv.Pn {m:Str->Option Value}{h':Heap}{D:Addr}{aC:List Value}{c:Nat}{xs:List V}(I:Inv X aa σ H s)(F0:Fr X.base X.env.locals s.heap m)(F:Fr X.base X.env.locals h' m)
  (N:News X.base X.env.locals h' ((D,listOf aC.toArray c)::gu X.base s.heap X.env.locals)) (lt:∀ q∈gu X.base s.heap X.env.locals,q.1 < D) (hv:Vals xs aC) (hz:xs.length<=sizeLine) :
  Inv X aa σ (upd H D (.lst xs)) { s with heap:=h' }/\H D=none:=by
 obtain ⟨eD,nL,nb⟩:=N (D,listOf aC.toArray c) (.head _);have W2:s.heap.get? D=none:=by
  cases q:s.heap.get? D with
  | none=>rfl
  | some o=>exact absurd (lt (D,o) (eS nL nb q)) (z6 _)
 have hD:H D=none:=by
  cases q:H D with
  | none=>rfl
  | some u=>
   obtain ⟨ob,e⟩:=(I.aY D u q).at;rw [W2] at e;cases e
 have keep:∀ b o,b≠X.env.locals->s.heap.get? b=some o->h'.get? b=some o:=λb o hb e=>by
  cases q:X.base.get? b with
  | some u=>
   have:=I.bk b u q;rw [e] at this;cases this;exact F.keep b _ q
  | none=>exact (N (b,o) (.tail _ (eS hb q e))).1
 have UR:∀ b o,s.heap.get? b=some o->b≠D:=λb o e z=>by rw [z,W2] at e;cases e
 have neT:∀ b u,H b=some u->b≠D:=λb u e z=>by rw [z,hD] at e;cases e
 refine ⟨I.step (g':=s.gens) (t':=s.toks) (d':=s.drawn) (ch:=[]) (λ_ z=>nomatch z) (λb o hb _ _ e _=>keep b o hb e) (λb o hb _ _ e _=>⟨o.slots,keep b o hb e⟩) (λb o _ e n=>by rw [xj (UR b o e)];exact n) (λb o _ e=>?_)
  (λb ys e=>by rw [xj (neT b _ e)];exact e) (λb o u e=>by rw [xj (neT b _ e)];exact e) (λb ps e=>⟨#[],by rw [xj (neT b _ e),e,Array.append_empty]⟩) (λm' hm=>?_) (λb u e=>?_) I.bare,hD⟩
 ·by_cases hb:b=X.env.locals
  ·obtain ⟨o',_,_,q,_⟩:=F.ns;exact ⟨o',by rw [hb];exact q⟩
  ·exact ⟨o,keep b o hb e⟩
 ·obtain ⟨o1,TX,ep1,e1,d1,k1,f1⟩:=hm;obtain ⟨o2,es2,ep2,e2,d2,k2,f2⟩:=F0.ns;rw [e1] at e2;cases e2;rw [d1] at d2;cases d2;obtain ⟨o3,es3,ep3,e3,d3,k3,f3⟩:=F.ns;exact ⟨o3,es3,ep3,e3,d3,k3,λname=>(f3 name).trans ((f2 name).symm.trans (f1 name))⟩
 ·by_cases hb:b=D
  ·subst hb;rw [xb] at e;cases e;exact ⟨hz,aC,c,hv,eD⟩
  ·rw [xj hb] at e;refine (I.aY b u e).dJ (λc v hc q=>keep c v (λz=>?_) q) (λc q=>by rw [xj (neT c _ q)];exact q) λc ys q=>by rw [xj (neT c _ q)];exact q
   rcases hc with rfl | hc
   ·rw [z,I.free] at e;cases e
   ·rw [z,I.free] at hc;cases hc
end
section
variable {prog:Program}{w:World}{A:Around}{E:Value->Shared->Prop}{s:Shared}
theorem vG {a:Addr}{aC:List Value}{k:Nat}{P:PySem.Fin->Shared->Prop}(hx:s.heap.get? a=some (seqObj "list" aC.toArray k))(jY:aC.length < 2)
  (done:P (.done (.ret .none)) { s with heap:=sortedHeap s.heap a aC aC.toArray }):wpAny (model prog w) A (Builtin.«list.sort» ⟨[.ref a],[]⟩) P E s:=by
 have here:a < s.heap.objs.size:=Heap.lt_size hx;have line:aC.length<=sizeLine:=by rw [sizeLine_eq];omega
 rw [list_sort_plain];obtain ⟨e1,Zf⟩:∃ e1,(s.heap.update a (Obj.mapSeq λ_=>(#[]:Array Value))).get? a=some (seqObj "list" #[] e1):=⟨_,get?_update_seq hx (λ_=>#[])⟩;refine wpAny_bind (listItems_at hx rfl (wpAny_bind (listUpdate_at hx rfl (wpAny_bind (seqEpoch_at Zf rfl (wpAny_bind (wpAny_newTuple (wpAny_bind (wpAny_newList (wpAny_holding ?_) (zb _))) line))))
  (by rw [zQ];exact line) (zb _))))
 have at2:(((s.heap.update a (Obj.mapSeq λ_=>(#[]:Array Value))).push (seqObj "tuple" aC.toArray 0)).push (seqObj "list" #[] 0)).get? a=some (seqObj "list" #[] e1):=
  Heap.get?_push_of_some _ (Heap.get?_push_of_some _ Zf)
 show wpAny (model prog w) A _ P E { s with heap:=((s.heap.update a (Obj.mapSeq λ_=>(#[]:Array Value))).push (seqObj "tuple" aC.toArray 0)).push (seqObj "list" #[] 0) };have less:aC.toArray.size < 2:=by rw [zQ];exact jY
 have WO:(arrOf (SortSt.mk' general' (aC.toArray.zip aC.toArray) #[] 7 none)).map (·.2)=aC.toArray:=by
  show (aC.toArray.zip aC.toArray).map (·.2)=aC.toArray
  match aC,jY with
  | [],_=>simp
  | [_],_=>simp
 dsimp only;rw [if_pos less,if_pos less];refine wpAny_bind (wpAny_pure ?_);rw [StateT.run_pure];refine wpAny_bind (wpAny_pure ?_);dsimp only;refine wpAny_bind (seqEpoch_at at2 rfl (wpAny_bind (listUpdate_at at2 rfl ?_ (zb _) (by rw [WO,zQ];omega))));simp only [bne_self_eq_false,za,if_false];rw [WO];exact wpAny_pure done
theorem qV {l:Addr}{aC:List Value}{Q:Value->Shared->Prop}(hl:s.heap.IsList l aC.toArray)(jY:aC.length < 2)
  (done:Q (.ref (s.heap.objs.size + 1)) { s with heap:=sortedAll s.heap aC aC.toArray }):wpAny (model prog w) A (call (.builtin "sorted") [.ref l]) Q E s:=by
 have line:aC.length<=sizeLine:=by rw [sizeLine_eq];omega
 refine Calls.call_function_entry kind_sorted plain_sorted entry_sorted (args_sorted1 _) ?_;unfold Builtin.«sorted»;refine wpAny_bind (m:=checkCount "sorted" 1 1 _) (wpAny_pure (wpAny_bind (collect_list hl (wpAny_bind (wpAny_newList ?_ line)) line)));have sz:((s.heap.push (seqObj "list" #[] 0)).update s.heap.objs.size (Obj.mapSeq (·++aC.toArray))).objs.size=s.heap.objs.size + 1:=by rw [Heap.size_update,size_push']
 have atL:(((s.heap.push (seqObj "list" #[] 0)).update s.heap.objs.size (Obj.mapSeq (·++aC.toArray))).push (seqObj "list" aC.toArray 0)).get? (s.heap.objs.size + 1)=some (seqObj "list" aC.toArray 0):=by
  rw [<-sz];exact Heap.get?_push_size _ rfl
 show wpAny _ _ _ _ _ { s with heap:=((s.heap.push (seqObj "list" #[] 0)).update s.heap.objs.size (Obj.mapSeq (·++aC.toArray))).push (seqObj "list" aC.toArray 0) };rw [sz];exact wpAny_bind (wpAny_holding (wpAny_call_entry slot_list_sort ⟨_,atL,rfl⟩ entry_list_sort (vG atL jY ⟨_,rfl,wpAny_pure ⟨_,rfl,done⟩⟩) (args_list_sort _)))
end
section
variable {X:Cx}
theorem iF:∀ {ps:List (Addr×List Int)}{us:List Value},Vals (ps.map λa=>V.ref a.1) us->us=ps.map λa=>Value.ref a.1
 | [],us,r=>by cases r;rfl
 | a::ps,us,r=>by
  cases r with
  | cons x y=>rw [iF y];cases x;rfl
noncomputable def Q6 (h:Heap)(a:Addr)(r:List Int):Prop:=∃ o items n,h.get? a=some o/\o.cls=.type "tuple" /\ o.data=.seq items n/\Vals (r.map V.int) items.toList
theorem mH {prog:Program}{w:World}{A:Around}{s:Shared}{b fin:Bool}{Q:Bool->Shared->Prop}:∀ {r r':List Int}{us T8:List Value}{i:Nat},Vals (r.map V.int) us->Vals (r'.map V.int) T8->fin=decide (us.length < T8.length)->Q (lx r r') s ->
  KatLex prog w A b fin Q (us.zip T8) i s
 | [],[],us,T8,i,ru,RW,hf,q=>by cases ru;cases RW;exact kat_nil (by rw [hf];exact q)
 | [],_::_,us,T8,i,ru,RW,hf,q=>by
  cases ru;cases RW with
  | cons _ _=>exact kat_nil (by rw [hf];simpa [lx] using q)
 | _::_,[],us,T8,i,ru,RW,hf,q=>by
  cases RW;cases ru with
  | cons _ _=>exact kat_nil (by rw [hf];simpa [lx] using q)
 | x::r,y::r',us,T8,i,ru,RW,hf,q=>by
  cases ru with
  | cons rx ru=>
  cases RW with
  | cons ry RW=>
  obtain ⟨t,rfl⟩:=rx;obtain ⟨t',rfl⟩:=ry;refine kat_cons (wpAny_eqBool_int ?_);unfold lx at q;by_cases e:x=y
  ·subst e;rw [if_pos rfl] at q;rw [show (x == x)=true from by simp];exact kat_yes (mH ru RW (by rw [hf];simp) q)
  ·rw [if_neg e] at q;rw [show (x == y)=false from by simpa using e];refine kat_no ?_;cases (b && i == 0) with
   | true=>exact oneLt_int q
   | false=>exact kat_one _ _ (lt_int q)
theorem nW {h:Heap}:∀ {ps:List (Addr×List Int)},(∀ a∈ps,Q6 h a.1 a.2/\a.2≠[])->∃ fs,KatTups h (ps.map λa=>Value.ref a.1) fs/\fs.length=ps.length/\∀ v∈fs,∃ i t,v=Value.int i t
 | [],_=>⟨[],KatTups.nil,rfl,λ_ z=>nomatch z⟩
 | (a,r)::ps,hp=>by
  obtain ⟨fs,k,l,f⟩:=nW λa ha=>hp a (.tail _ ha);obtain ⟨⟨o,items,n,ho,hc,hd,hv⟩,hn⟩:=hp (a,r) (.head _)
  match r,hn,hv with
  | x::r,_,hv=>
   obtain ⟨u,hu,t,e⟩:=Vals.get (i:=0) hv rfl;refine ⟨u::fs,KatTups.cons ho hc hd (by rw [<-hu];simp) k,by simp [l],λv hv=>?_⟩;rcases zH.mp hv with rfl | hv
   ·exact ⟨x,t,e⟩
   ·exact f v hv
theorem pX {α:Type}(d:α)(l:List α):(List.range l.length).map (λi=>l.getD i d)=l:=by
 apply List.ext_getElem
 ·simp
 ·intro i h1 h2;simp [List.getD,h2]
theorem fP:∀ (ps:List (Addr×List Int)),Vals (ps.map λa=>V.ref a.1) (ps.map λa=>Value.ref a.1)
 | []=>.nil
 | _::ps=>.cons rfl (fP ps)
theorem Mj:dZ X (.builtin "sorted") (λxs H Q=>∃ p,∃ ps:List (Addr×List Int),xs=[.ref p]/\aL X.K H p (ps.map λa=>V.ref a.1)/\ps.length < 64/\(∀ a∈ps,H a.1=some (.tup (a.2.map V.int))/\a.2≠[]) /\
  ∀ l qs,H l=none->List.Perm qs ps->qs.Pairwise (λa b=>lx b.2 a.2=false)->Q (.ref l) (upd H l (.lst (qs.map λa=>V.ref a.1)))):=by
 intro aa s σ H xs us Q I r h;obtain ⟨p,ps,rfl,hq,X0,fZ,q⟩:=h;obtain ⟨u,rfl,rx⟩:=vals1 r;cases rx;obtain ⟨aC,r',pl,hz⟩:=I.list hq;have ei:=iF r';subst ei;have hlen:(ps.map λa=>Value.ref a.1).length=ps.length:=by simp
 by_cases h2:ps.length < 2
 ·refine qV pl.isList (by omega) ?_;have sz:((s.heap.push (seqObj "list" #[] 0)).update s.heap.objs.size (Obj.mapSeq (·++(ps.map λa=>Value.ref a.1).toArray))).objs.size=s.heap.objs.size + 1:=by rw [Heap.size_update,size_push']
  have kp:∀ b o,s.heap.get? b=some o->(sortedAll s.heap (ps.map λa=>Value.ref a.1) (ps.map λa=>Value.ref a.1).toArray).get? b=some o:=λb o e=>by
   have lb:b < s.heap.objs.size:=Heap.lt_size e;unfold sortedAll sortedHeap;rw [Heap.get?_update_ne _ _ _ _ (zV (yZ lb))];refine Heap.get?_push_of_some _ (Heap.get?_push_of_some _ ?_);rw [Heap.get?_update_ne _ _ _ _ (zV (yZ lb))];refine Heap.get?_push_of_some _ ?_;rw [Heap.get?_update_ne _ _ _ _ (zV lb)];exact Heap.get?_push_of_some _ e
  obtain ⟨c,ec⟩:∃ c,(sortedAll s.heap (ps.map λa=>Value.ref a.1) (ps.map λa=>Value.ref a.1).toArray).get? (s.heap.objs.size + 1)=some (seqObj "list" (ps.map λa=>Value.ref a.1).toArray c):=by
   have e0:=Heap.get?_push_size ((s.heap.push (seqObj "list" #[] 0)).update s.heap.objs.size (Obj.mapSeq (·++(ps.map λa=>Value.ref a.1).toArray))) (o:=seqObj "list" (ps.map λa=>Value.ref a.1).toArray 0) rfl;rw [sz] at e0;unfold sortedAll sortedHeap;have e1:=get?_update_seq e0 (λ_=>(#[]:Array Value));exact ⟨_,get?_update_seq (Heap.get?_push_of_some _ (Heap.get?_push_of_some _ e1)) _⟩
  refine ⟨.ref (s.heap.objs.size + 1),_,I.laid (t':=s.toks) kp (xC _) (show bK X.prog X.w _ _ _ (.lst (ps.map λa=>V.ref a.1)) from ⟨hz,_,c,r',ec⟩),rfl,q _ ps (I.aY.fresh (xC _)) (List.Perm.refl _) ?_⟩
  match ps,h2 with
  | [],_=>exact .nil
  | [_],_=>exact ya _ _
 ·obtain ⟨m,F⟩:=I.fr;refine kat_sorted F (tU (g:=X.base) (h:=s.heap)) pl.isList (by omega) (by omega) λD e1 h' F' N' lt=>?_;have keep:∀ b o,b≠X.env.locals->s.heap.get? b=some o->h'.get? b=some o:=λb o hb e=>by
   cases q:X.base.get? b with
   | some u=>
    have:=I.bk b u q;rw [e] at this;cases this;exact F'.keep b _ q
   | none=>exact (N' (b,o) (.tail _ (eS hb q e))).1
  have rowAt:∀ a∈ps,Q6 h' a.1 a.2/\a.2≠[]:=λa ha=>by
   obtain ⟨ht,hn⟩:=fZ a ha;obtain ⟨_,aC,rv,o,e,c,n,d⟩:=I.aY a.1 _ ht;refine ⟨⟨o,_,n,keep a.1 o (λz=>?_) e,c,d,rv⟩,hn⟩;rw [z,I.free] at ht;cases ht
  obtain ⟨fs,kt,lf,hf⟩:=nW rowAt;refine kat_kind (T:=.type "int") kt (by omega) (λv hv=>?_) (by decide) ?_
  ·obtain ⟨i,t,rfl⟩:=hf v hv;exact Looks.now
  have n1:1<=(ps.map λa=>Value.ref a.1).length:=by omega
  refine gK.wp (c:=cf λi=>rk (ps.map (·.2)) ((ps.map (·.2)).getD i [])) (λi j C hi hj hC=>?_) (λpp hp=>?_) _ (ME (f:=λi=>rk (ps.map (·.2)) ((ps.map (·.2)).getD i [])) n1)
  ·have fm:i < ps.length:=by omega
   have Qw:j < ps.length:=by omega
   obtain ⟨⟨o,items,n,ho,hc,hd,hv⟩,hn⟩:=rowAt ps[i] (zh fm);obtain ⟨⟨o',U8,n',pD,TL,Oi,Tu⟩,Rj⟩:=rowAt ps[j] (zh Qw);unfold kas_ask;have ei:(ps.map λa=>Value.ref a.1).getD i Value.none=.ref ps[i].1:=by simp [fm]
   have ej:(ps.map λa=>Value.ref a.1).getD j Value.none=.ref ps[j].1:=by simp [Qw]
   rw [ei,ej];refine kat_lt ho hd pD Oi (mH hv Tu (by simp) ?_);have e:cf (λi=>rk (ps.map (·.2)) ((ps.map (·.2)).getD i [])) i j=lx ps[i].2 ps[j].2:=by
    unfold cf;have e1:(ps.map (·.2)).getD i []=ps[i].2:=by simp [fm]
    have e2:(ps.map (·.2)).getD j []=ps[j].2:=by simp [Qw]
    simp only [e1,e2];exact ML (zP.mpr ⟨ps[i],zh fm,rfl⟩)
   rw [e] at hC;exact hC
  ·obtain ⟨pm,up⟩:=hp;refine KasFin.intro F' N' (UpdF.head λx hx=>zV (lt x hx)) λTQ c F2 N2=>?_;have pl:pp.toList.Perm (List.range ps.length):=by
    have:=pm.toList;rw [hlen] at this;simpa using this
   have eo:(pp.toList.map λi=>(ps.map λa=>Value.ref a.1).getD i Value.none)=(pp.toList.map λi=>ps.getD i (0,[])).map λa=>Value.ref a.1:=by
    rw [z4];refine yM λi hi=>?_;have fm:i < ps.length:=zm.mp (pl.mem_iff.mp hi);simp [fm]
   have perm:(pp.toList.map λi=>ps.getD i (0,[])).Perm ps:=by
    have:=pl.map λi=>ps.getD i (0,[]);rwa [pX] at this
   rw [eo] at N2;have hzz:((pp.toList.map λi=>ps.getD i (0,[])).map λa=>V.ref a.1).length<=sizeLine:=by
    rw [zA,perm.length_eq,sizeLine_eq];omega
   obtain ⟨I2,hD⟩:=I.Pn F F2 N2 lt (fP _) hzz;refine ⟨.ref D,_,I2,rfl,q D _ hD perm ?_⟩;rw [zw];intro i j hi hj ur;simp only [zA,Array.length_toList] at hi hj;simp only [List.getElem_map,Array.getElem_toList];have hn:pp.size=ps.length:=by rw [pm.size];exact hlen
   have key:=up i j (xL ur) (by omega);have a1:pp[i] < ps.length:=zm.mp (pl.mem_iff.mp (by simp));have a2:pp[j] < ps.length:=zm.mp (pl.mem_iff.mp (by simp));unfold g at'  at key;simp only [hi,hj,getElem?_pos,Option.getD_some] at key;have e1:(ps.map (·.2)).getD pp[i] []=ps[pp[i]].2:=by simp [a1]
   have e2:(ps.map (·.2)).getD pp[j] []=ps[pp[j]].2:=by simp [a2]
   rw [e1,e2] at key;have e3:ps.getD pp[i] (0,[])=ps[pp[i]]:=by simp [a1]
   have e4:ps.getD pp[j] (0,[])=ps[pp[j]]:=by simp [a2]
   rw [e3,e4];have:=ML (rs:=ps.map (·.2)) (a:=ps[pp[j]].2) (b:=ps[pp[i]].2) (zP.mpr ⟨_,zh a2,rfl⟩);rw [<-this];simp only [decide_eq_false_iff_not];omega
end
end L2
namespace L2
open PySem PySem.Spec PyProof.Rows
noncomputable def notStar:Expr->Bool
 | .Starred _ _=>false
 | _=>true
theorem kj {e:Expr}{es:List Expr}{env:Env}(h:notStar e=true):starEach (e::es) env=(false,eval e env)::starEach es env:=by cases e <;> first | rfl | cases h
@[irreducible] noncomputable def VX (X:Cx) (es:List Expr) (t:TA):Prop:=PA X es t
theorem xa {X:Cx}{es:List Expr}{t:TA}(h:VX X es t):PA X es t:=by unfold VX at h;exact h
theorem Tj {X:Cx}{es:List Expr}{t:TA}(h:PA X es t):VX X es t:=by unfold VX;exact h
theorem xp {X:Cx}:VX X [] oX:=Tj wb
theorem xf {X:Cx}{e:Expr}{es:List Expr}{te:TE}{t:TA}(ha:PE X e te)(hr:VX X es t)(hn:notStar e=true):VX X (e::es) (jw te t):=Tj (Sf ha (xa hr) (kj hn))
@[irreducible] noncomputable def Mr (X:Cx) (es:List Stmt) (t:TS):Prop:=qK X es t
theorem xo {X:Cx}{es:List Stmt}{t:TS}(h:Mr X es t):qK X es t:=by unfold Mr at h;exact h
theorem TZ {X:Cx}{es:List Stmt}{t:TS}(h:qK X es t):Mr X es t:=by unfold Mr;exact h
theorem wB {X:Cx}{a:Stmt}{t:TS}(h:PS X a t):Mr X [a] t:=TZ (R4 h)
theorem xu {X:Cx}{a b:Stmt}{rest:List Stmt}{t u:TS}(h:PS X a t)(hr:Mr X (b::rest) u):Mr X (a::b::rest) (lN t u):=TZ (PJ h (xo hr))
section
variable {K:PySem.W.Frag}{a:Addr}{xs:List V}{n:Nat}{caps:List Nat}{g:TG}{tc:TT}{te:TE}{σ:St}{H:Hp}{Qf:Addr->Hp->List V->Prop}
theorem jR {J:It}(Pv:Nat->St->List V->Hp->Prop)(len:Nat)(h0:Pv 0 (d9 n caps σ) [] H)(hn:len<=1000)(hl:∀ i τ acc H,Pv i τ acc H->acc.length<=i)
  (hgo:∀ i τ acc H,i < len->Pv i τ acc H->J.go i H) (Qs:∀ τ acc H,Pv len τ acc H->J.stop len H)
  (hs:∀ i τ acc H (C:St->List V->Hp->Prop),i < len->Pv i τ acc H->(∀ τ acc H,Pv (i + 1) τ acc H->C τ acc H)->∀ x H',J.sM i H x H'->g x τ H' fun bT H2=>tc bT H2 λb H3=>if b=true then te bT H3 λy H4=>C bT (acc++[y]) H4 else C bT acc H3)
  (hd:∀ τ acc H,Pv len τ acc H->∀ p,H p=none->Qf p H acc) :
  ∃ W:Nat->Nat->St->List V->Hp->Prop,(∃ m,W 0 m (d9 n caps σ) [] H)/\∀ i m τ acc H,W i m τ acc H ->
   (J.stop i H/\acc.length<=sizeLine/\∀ p,H p=none->Qf p H acc) \/
   (J.go i H/\acc.length < sizeLine/\∀ x H',J.sM i H x H'->g x τ H' fun bT H2=>tc bT H2 λb H3=>if b=true then te bT H3 λy H4=>∃ m',m' < m/\W (i + 1) m' bT (acc++[y]) H4 else ∃ m',m' < m/\W (i + 1) m' bT acc H3):=by
 have line:1001<=sizeLine:=by rw [sizeLine_eq];decide
 refine ⟨λi m τ acc H=>m=len - i/\i<=len/\Pv i τ acc H,⟨len,by simp,zb _,h0⟩,?_⟩;rintro i m τ acc H ⟨rfl,hi,p⟩;have q:=hl i τ acc H p;by_cases fk:i < len
 ·exact .inr ⟨hgo i τ acc H fk p,by omega,λx H' y=>hs i τ acc H (fun τ acc H=>∃ m',m' < len - i/\m'=len - (i + 1)/\i + 1<=len/\Pv (i + 1) τ acc H) fk p (fun τ acc H p'=>⟨len - (i + 1),by omega,rfl,fk,p'⟩) x H' y⟩
 ·have e:i=len:=by omega
  subst e;exact .inl ⟨Qs τ acc H p,by omega,hd τ acc H p⟩
theorem QO (Pv:Nat->St->List V->Hp->Prop)(h0:Pv 0 (d9 n caps σ) [] H)(hn:xs.length<=1000)(hl:∀ i τ acc H,Pv i τ acc H->acc.length<=i/\cD K H a xs)
  (hs:∀ i x τ acc H (C:St->List V->Hp->Prop),xs[i]?=some x->Pv i τ acc H->(∀ τ acc H,Pv (i + 1) τ acc H->C τ acc H)->g x τ H fun bT H2=>tc bT H2 λb H3=>if b=true then te bT H3 λy H4=>C bT (acc++[y]) H4 else C bT acc H3)
  (hd:∀ τ acc H,Pv xs.length τ acc H->∀ p,H p=none->Qf p H acc) :
  ∃ W:Nat->Nat->St->List V->Hp->Prop,(∃ m,W 0 m (d9 n caps σ) [] H)/\∀ i m τ acc H,W i m τ acc H ->
   ((Ws K a).stop i H/\acc.length<=sizeLine/\∀ p,H p=none->Qf p H acc) \/
   ((Ws K a).go i H/\acc.length < sizeLine/\∀ x H',(Ws K a).sM i H x H'->g x τ H' fun bT H2=>tc bT H2 λb H3=>if b=true then te bT H3 λy H4=>∃ m',m' < m/\W (i + 1) m' bT (acc++[y]) H4 else ∃ m',m' < m/\W (i + 1) m' bT acc H3):=
 jR (J:=Ws K a) Pv xs.length h0 hn (λi τ acc H p=>(hl i τ acc H p).1) (λi τ acc H hi p=>⟨xs,xs[i],(hl i τ acc H p).2,by simp [hi]⟩) (fun τ acc H p=>⟨xs,(hl _ τ acc H p).2,zD _⟩)
  (λi τ acc H C hi p c x H' y=>by obtain ⟨e,y⟩:=y;subst e;exact hs i x τ acc _ C (y xs (hl i τ acc _ p).2) p c) hd
theorem dH (Pv:Nat->St->List V->Hp->Prop)(h0:Pv 0 (d9 n caps σ) [] H)(hn:xs.length<=1000)(hl:∀ i τ acc H,Pv i τ acc H->acc.length<=i/\aL K H a xs)
  (hs:∀ i x τ acc H (C:St->List V->Hp->Prop),xs[i]?=some x->Pv i τ acc H->(∀ τ acc H,Pv (i + 1) τ acc H->C τ acc H)->g x τ H fun bT H2=>tc bT H2 λb H3=>if b=true then te bT H3 λy H4=>C bT (acc++[y]) H4 else C bT acc H3)
  (hd:∀ τ acc H,Pv xs.length τ acc H->∀ p,H p=none->Qf p H acc) :
  ∃ W:Nat->Nat->St->List V->Hp->Prop,(∃ m,W 0 m (d9 n caps σ) [] H)/\∀ i m τ acc H,W i m τ acc H ->
   ((OH K a).stop i H/\acc.length<=sizeLine/\∀ p,H p=none->Qf p H acc) \/
   ((OH K a).go i H/\acc.length < sizeLine/\∀ x H',(OH K a).sM i H x H'->g x τ H' fun bT H2=>tc bT H2 λb H3=>if b=true then te bT H3 λy H4=>∃ m',m' < m/\W (i + 1) m' bT (acc++[y]) H4 else ∃ m',m' < m/\W (i + 1) m' bT acc H3):=
 jR (J:=OH K a) Pv xs.length h0 hn (λi τ acc H p=>(hl i τ acc H p).1) (λi τ acc H hi p=>⟨xs,xs[i],(hl i τ acc H p).2,by simp [hi]⟩) (fun τ acc H p=>⟨xs,(hl _ τ acc H p).2,zD _⟩)
  (λi τ acc H C hi p c x H' y=>by obtain ⟨e,y⟩:=y;subst e;exact hs i x τ acc _ C (y xs (hl i τ acc _ p).2) p c) hd
theorem oE (Pv:Nat->St->List V->Hp->Prop)(h0:Pv 0 (d9 n caps σ) [] H)(hn:xs.length<=1000)(hl:∀ i τ acc H,Pv i τ acc H->acc.length<=i/\cD K H a xs)
  (hs:∀ i x q τ acc H (C:St->List V->Hp->Prop),xs[i]?=some x->H q=none->Pv i τ acc H->(∀ τ acc H,Pv (i + 1) τ acc H->C τ acc H)->g (.ref q) τ (upd H q (.tup [.int i,x])) fun bT H2=>tc bT H2 λb H3=>if b=true then te bT H3 λy H4=>C bT (acc++[y]) H4 else C bT acc H3)
  (hd:∀ τ acc H,Pv xs.length τ acc H->∀ p,H p=none->Qf p H acc) :
  ∃ W:Nat->Nat->St->List V->Hp->Prop,(∃ m,W 0 m (d9 n caps σ) [] H)/\∀ i m τ acc H,W i m τ acc H ->
   ((sy K a).stop i H/\acc.length<=sizeLine/\∀ p,H p=none->Qf p H acc) \/
   ((sy K a).go i H/\acc.length < sizeLine/\∀ x H',(sy K a).sM i H x H'->g x τ H' fun bT H2=>tc bT H2 λb H3=>if b=true then te bT H3 λy H4=>∃ m',m' < m/\W (i + 1) m' bT (acc++[y]) H4 else ∃ m',m' < m/\W (i + 1) m' bT acc H3):=
 jR (J:=sy K a) Pv xs.length h0 hn (λi τ acc H p=>(hl i τ acc H p).1) (λi τ acc H hi p=>⟨xs,xs[i],(hl i τ acc H p).2,by simp [hi]⟩) (fun τ acc H p=>⟨xs,(hl _ τ acc H p).2,zD _⟩)
  (λi τ acc H C hi p c x H' y=>by obtain ⟨q,x',hq,e1,e2,y⟩:=y;subst e1;subst e2;exact hs i x' q τ acc _ C (y xs (hl i τ acc _ p).2) hq p c) hd
theorem Ou {tb:TS}{D:Ends}(Pv:Nat->St->Hp->Prop)(h0:Pv 0 σ H)(hl:∀ i σ H,i<=xs.length->Pv i σ H->cD K H a xs)
  (hs:∀ i x q σ H,xs[i]?=some x->H q=none->Pv i σ H->g (.ref q) σ (upd H q (.tup [.int i,x])) fun Nn H2=>tb { D with nx:=Pv (i + 1),ct:=Pv (i + 1),bk:=D.nx } Nn H2) (hd:∀ σ H,Pv xs.length σ H->D.nx σ H) :
  ∃ W:Nat->Nat->St->Hp->Prop,(∃ m,W 0 m σ H)/\∀ i m σ H,W i m σ H ->
   ((sy K a).stop i H/\D.nx σ H)\/((sy K a).go i H/\∃ N:St->Hp->Prop,(∀ cz H',N cz H'->∃ m',m' < m/\W (i + 1) m' cz H')/\∀ x H',(sy K a).sM i H x H'->g x σ H' fun Nn H2=>tb { D with nx:=N,ct:=N,bk:=D.nx } Nn H2):=by
 refine ⟨λi m σ H=>m=xs.length - i/\i<=xs.length/\Pv i σ H,⟨xs.length,by simp,zb _,h0⟩,?_⟩;rintro i m σ H ⟨rfl,hi,p⟩;have q:=hl i σ H hi p;by_cases fk:i < xs.length
 ·refine .inr ⟨⟨xs,xs[i],q,by simp [fk]⟩,Pv (i + 1),fun cz H' p'=>⟨xs.length - (i + 1),by omega,rfl,fk,p'⟩,λx H' y=>?_⟩;obtain ⟨q',x',hq,e1,e2,y⟩:=y;subst e1;subst e2;exact hs i x' q' σ _ (y xs q) hq p
 ·have e:i=xs.length:=by omega
  subst e;exact .inl ⟨⟨xs,q,zD _⟩,hd σ H p⟩
end
end L2
namespace Sm
open PySem L2 aZ
noncomputable def bY (p:Addr)(H H':Hp):Prop:=∀ b u,b≠p->H b=some u->H' b=some u
theorem bY.refl (p:Addr)(H:Hp):bY p H H:=λ_ _ _ h=>h
theorem bY.trans {p:Addr}{H H1 H2:Hp}(a:bY p H H1)(b:bY p H1 H2):bY p H H2:=λc u n h=>b c u n (a c u n h)
theorem bY.set {p:Addr}{H:Hp}{o:HO}:bY p H (upd H p o):=λb u n h=>by rw [xj n];exact h
theorem bY.new {p l:Addr}{H:Hp}{o:HO}(h:H l=none):bY p H (upd H l o):=λb u n e=>by rw [xj (xh e h)];exact e
noncomputable def bU (H:Hp)(p:Addr):Prop:=∃ a b c:Int,H p=some (.lst [.int a,.int b,.int c])
noncomputable def Go (p:Addr)(H H':Hp):Prop:=bY p H H'/\bU H' p
theorem Go.trans {p:Addr}{H H1 H2:Hp}(a:Go p H H1)(b:Go p H1 H2):Go p H H2:=⟨a.1.trans b.1,b.2⟩
theorem Go.refl {p:Addr}{H:Hp}(a:bU H p):Go p H H:=⟨bY.refl p H,a⟩
theorem bU.new {p l:Addr}{H:Hp}{o:HO}(a:bU H p)(h:H l=none):bU (upd H l o) p:=by obtain ⟨x,y,z,e⟩:=a;exact ⟨x,y,z,by rw [xj (xh e h)];exact e⟩
theorem bU.ne {p l:Addr}{H:Hp}(a:bU H p)(h:H l=none):l≠p:=by obtain ⟨x,y,z,e⟩:=a;exact (xh e h).symm
theorem Go.new {p l:Addr}{H H1:Hp}{o:HO}(a:Go p H H1)(h:H1 l=none):Go p H (upd H1 l o):=⟨a.1.trans (bY.new h),a.2.new h⟩
theorem bU.tup {p t:Addr}{H:Hp}{xs:List V}(a:bU H p)(h:H t=some (.tup xs)):t≠p:=by obtain ⟨x,y,z,e⟩:=a;exact cT h e (by intro z;cases z)
noncomputable def bV (H H':Hp):Prop:=∀ b xs,H b=some (.tup xs)->H' b=some (.tup xs)
theorem bV.trans {H H1 H2:Hp}(a:bV H H1)(b:bV H1 H2):bV H H2:=λc u h=>b c u (a c u h)
theorem Go.aS {p:Addr}{H H':Hp}(a:Go p H H')(h:bU H p):bV H H':=λb xs e=>a.1 b _ (h.tup e) e
theorem bV.new {l:Addr}{H:Hp}{o:HO}(h:H l=none):bV H (upd H l o):=λb u e=>by rw [xj (xh e h)];exact e
theorem bV.set {l:Addr}{H:Hp}{xs:List V}{o:HO}(h:H l=some (.lst xs)):bV H (upd H l o):=λb u e=>by rw [xj (cT e h (by intro z;cases z))];exact e
theorem bV.same {H H':Hp}(h:aB H H'):bV H H':=λb u e=>h b _ e
structure M4 where
 lo:Int
 hi:Int
 t:Int
 m:Int
noncomputable def M4.vs (r:M4):List V:=[.int r.lo,.int r.hi,.int r.t,.int r.m]
noncomputable def apart (a b:M4):Prop:=a.lo≠b.lo/\a.lo≠b.hi/\a.hi≠b.lo/\a.hi≠b.hi
structure Good (w:Int) (ms:List M4):Prop where
 jY:ms.length<=60
 each:∀ r∈ms,0<=r.lo/\r.lo < r.hi/\r.hi < w/\1<=r.t/\r.t<=1000000000/\1<=r.m/\r.m<=99
 order:ms.Pairwise λa b=>a.t < b.t\/(a.t=b.t/\a.lo < b.lo/\apart a b)
noncomputable def iC (H:Hp)(ps:List (Addr×M4)):Prop:=∀ a∈ps,H a.1=some (.tup a.2.vs)
structure aN (H:Hp) (b:Addr) (af:List Int) (tr tm:Addr) (ps:List (Addr×M4)):Prop where
 book:H b=some (.tup [.ref tr,.ref tm])
 af:H tr=some (.tup (af.map V.int))
 meets:H tm=some (.tup (ps.map λa=>V.ref a.1))
 rows:iC H ps
theorem iC.aS {H H':Hp}{ps:List (Addr×M4)}(a:iC H ps)(t:bV H H'):iC H' ps:=λx hx=>t _ _ (a x hx)
theorem aN.aS {H H':Hp}{b tr tm:Addr}{af:List Int}{ps:List (Addr×M4)}(a:aN H b af tr tm ps)(t:bV H H'):aN H' b af tr tm ps:=
 ⟨t _ _ a.book,t _ _ a.af,t _ _ a.meets,a.rows.aS t⟩
noncomputable def RI (K:PySem.W.Frag):Sp:=λvs H Q _=>∃ (a:Addr) (ns:List Int) (k:Nat),vs=[.ref a,.int k]/\aL K H a (ns.map V.int)/\k < 1000/\∀ p H',H p=none->bU H' p->aB H H'->Q (.ref p) H'
noncomputable def Uq:Sp:=λvs H Q _=>∃ p n,vs=[.ref p,.int n]/\0 < n/\n < 2 ^ 200/\bU H p/\∀ d H',0<=d->d < n->Go p H H'->Q (.int d) H'
noncomputable def WN:Sp:=λvs H Q _=>∃ p,vs=[.ref p]/\bU H p/\∀ d H',0<=d->d<=1000000000->Go p H H'->Q (.int d) H'
noncomputable def RH:Sp:=λvs H Q _=>∃ p,∃ n:Nat,vs=[.ref p,.int n]/\n<=1000/\bU H p/\∀ (t:Addr) (af:List Int) (H':Hp),Go p H H'->H' t=some (.tup (af.map V.int))->af.length=n->(∀ r∈af,(0:Int)<=r/\r<=99)->Q (.ref t) H'
noncomputable def Ur:Sp:=λvs H Q _=>∃ p,vs=[.ref p]/\bU H p/\∀ d H',0<=d->d<=16000000->Go p H H'->Q (.int d) H'
noncomputable def vA:Sp:=λvs H Q _=>∃ p,∃ w:Int,∃ n:Nat,vs=[.ref p,.int w,.int n]/\n<=60/\w < 1000/\(n=0\/2<=w)/\bU H p /\
 ∀ (t:Addr) (ps:List (Addr×M4)) (H':Hp),Go p H H'->H' t=some (.tup (ps.map λa=>V.ref a.1))->iC H' ps->Good w (ps.map (·.2))->ps.length=n->Q (.ref t) H'
noncomputable def Ux:Sp:=λvs H Q _=>∃ p,∃ a:Int,∃ n:Nat,vs=[.ref p,.int a,.int n]/\1<=a/\a<=100/\n<=60/\bU H p /\
 ∀ (b:Addr) (af:List Int) (tr tm:Addr) (ps:List (Addr×M4)) (H':Hp),Go p H H'->aN H' b af tr tm ps->1<=af.length->(af.length:Int)<=a->(∀ r∈af,(0:Int)<=r/\r<=99)->Good af.length (ps.map (·.2))->ps.length<=n->Q (.ref b) H'
theorem jN {c A B:Prop}[Decidable c](h1:c->A)(h2:¬ c->B):if decide c=true then A else B:=by
 by_cases h:c
 ·rw [if_pos (decide_eq_true h)];exact h1 h
 ·rw [if_neg (by simpa using h)];exact h2 h
theorem aE {c:Bool}{A B:Prop}(hc:c=false)(h:B):if c=true then A else B:=by rw [if_neg (by rw [hc];exact zO)];exact h
theorem bH {c:Bool}{A B:Prop}(hc:c=true)(h:A):if c=true then A else B:=by rw [if_pos hc];exact h
theorem ug {c:Bool}{A B:Prop}(h1:c=true->A)(h2:c=false->B):if c=true then A else B:=by
 cases c with
 | true=>exact h1 rfl
 | false=>exact h2 rfl
theorem U9 {c A B:Prop}[Decidable c](hc:c)(h:B):if (!decide c)=true then A else B:=Xo hc h
theorem xi {H:Hp}{p:Addr}{o:HO}(h:H p=none):aB H (upd H p o):=λb u e=>by
 rw [xj (xh e h)];exact e
noncomputable def M4.row (r:M4):List Int:=[r.t,r.lo,r.hi,r.m]
structure V2 (w S4:Int) (bs:List Int) (fs:List (Addr×M4)):Prop where
 each:∀ a∈fs,0<=a.2.lo/\a.2.lo < a.2.hi/\a.2.hi < w/\1<=a.2.t/\a.2.t<=S4/\1<=a.2.m/\a.2.m<=99
 pw:fs.Pairwise λa b=>a.2.t=b.2.t->apart a.2 b.2
 bz:∀ a∈fs,a.2.t=S4->a.2.lo∈bs/\a.2.hi∈bs
theorem V2.step {w wh gap one other m:Int}{bs bs':List Int}{fs:List (Addr×M4)}{a:Addr}(F:V2 w wh bs fs)(h1:1<=wh)(g0:0<=gap)(o0:0<=one)(o1:one < w)(p0:0<=other)(p1:other < w)(ne:one≠other)
  (m0:1<=m) (m1:m<=99) (hg:gap=0->one ∉ bs/\other ∉ bs) (hb:∀ x∈bs,gap=0->x∈bs') (mj:one∈bs') (qm:other∈bs') :
  V2 w (wh + gap) bs' (fs++[(a,⟨if other < one then other else one,if other > one then other else one,wh + gap,m⟩)]):=by
 refine ⟨λb hb=>?_,?_,λb hm e=>?_⟩
 ·rcases zT.mp hb with h | h
  ·obtain ⟨a1,a2,a3,a4,a5,a6,a7⟩:=F.each b h;exact ⟨a1,a2,a3,a4,by omega,a6,a7⟩
  ·cases zF.mp h;by_cases c:other < one
   ·rw [if_pos c,if_neg (by omega)];exact ⟨p0,c,o1,by show 1<=wh + gap;omega,zp _,m0,m1⟩
   ·rw [if_neg c,if_pos (by omega)];exact ⟨o0,by show one < other;omega,p1,by show 1<=wh + gap;omega,zp _,m0,m1⟩
 ·rw [yr];refine ⟨F.pw,ya _ _,λb hb c hc e=>?_⟩;cases zF.mp hc;have e':b.2.t=wh + gap:=e;obtain ⟨a1,a2,a3,a4,a5,a6,a7⟩:=F.each b hb;have g:gap=0:=by omega
  obtain ⟨x1,x2⟩:=F.bz b hb (by omega);obtain ⟨n1,n2⟩:=hg g;have q1:b.2.lo≠one:=λz=>n1 (z ▸ x1);have q2:b.2.lo≠other:=λz=>n2 (z ▸ x1);have q3:b.2.hi≠one:=λz=>n1 (z ▸ x2);have q4:b.2.hi≠other:=λz=>n2 (z ▸ x2);unfold apart;dsimp only;by_cases c:other < one
  ·rw [if_pos c,if_neg (by omega)];exact ⟨q2,q1,q4,q3⟩
  ·rw [if_neg c,if_pos (by omega)];exact ⟨q1,q2,q3,q4⟩
 ·rcases zT.mp hm with h | h
  ·obtain ⟨a1,a2,a3,a4,a5,a6,a7⟩:=F.each b h;obtain ⟨x1,x2⟩:=F.bz b h (by omega);exact ⟨hb _ x1 (by omega),hb _ x2 (by omega)⟩
  ·cases zF.mp h;by_cases c:other < one
   ·rw [if_pos c,if_neg (by omega)];exact ⟨qm,mj⟩
   ·rw [if_neg c,if_pos (by omega)];exact ⟨mj,qm⟩
noncomputable def M4.jL (l:Int)(r:M4):M4:=⟨r.lo,r.hi,r.t + l,r.m⟩
theorem V2.good {w wh l:Int}{bs:List Int}{fs qs:List (Addr×M4)}(F:V2 w wh bs fs)(n:fs.length<=60)(l0:0<=l)(l1:fs≠[]->wh + l<=1000000000)(p:qs.Perm fs)(s:qs.Pairwise λa b=>lx b.2.row a.2.row=false) :
  Good w (qs.map λa=>a.2.jL l):=by
 refine ⟨by rw [zA,p.length_eq];exact n,λr hr=>?_,?_⟩
 ·obtain ⟨a,ha,rfl⟩:=zP.mp hr;have hm:=p.mem_iff.mp ha;obtain ⟨a1,a2,a3,a4,a5,a6,a7⟩:=F.each a hm;have:=l1 (List.ne_nil_of_mem hm);unfold M4.jL;exact ⟨a1,a2,a3,by show 1<=a.2.t + l;omega,by show a.2.t + l<=1000000000;omega,a6,a7⟩
 ·rw [yO];have ap:qs.Pairwise λa b=>a.2.t=b.2.t->apart a.2 b.2:=(List.Perm.pairwise_iff (λ{x y} h e=>by
   obtain ⟨a1,a2,a3,a4⟩:=h e.symm;exact ⟨a1.symm,a3.symm,a2.symm,a4.symm⟩) p).mpr F.pw
  refine (s.and ap).imp λ{a b} ⟨h1,h2⟩=>?_;unfold M4.jL;dsimp only;unfold M4.row lx at h1;by_cases e:a.2.t=b.2.t
  ·have q:=h2 e;rw [if_pos e.symm] at h1;unfold lx at h1;rw [if_neg λz=>q.1 z.symm] at h1;simp only [decide_eq_false_iff_not] at h1;refine .inr ⟨by omega,?_,q⟩;have:=q.1;omega
  ·rw [if_neg λz=>e z.symm] at h1;simp only [decide_eq_false_iff_not] at h1;exact .inl (by omega)
noncomputable def Uc (r:List Int):M4:=⟨r.getD 1 0,r.getD 2 0,r.getD 0 0,r.getD 3 0⟩
theorem NS {fs:List (Addr×M4)}{qs:List (Addr×List Int)}(p:qs.Perm (fs.map λa=>(a.1,a.2.row)))(s:qs.Pairwise λa b=>lx b.2 a.2=false) :
  ∃ rs:List (Addr×M4),rs.Perm fs/\(rs.Pairwise λa b=>lx b.2.row a.2.row=false)/\qs=rs.map λa=>(a.1,a.2.row):=by
 have e:qs=(qs.map λa=>(a.1,Uc a.2)).map λa=>(a.1,a.2.row):=by
  rw [z4];refine (List.map_id qs).symm.trans (yM λx hx=>?_);obtain ⟨a,_,rfl⟩:=zP.mp (p.mem_iff.mp hx);rfl
 refine ⟨qs.map λa=>(a.1,Uc a.2),?_,?_,e⟩
 ·have:=p.map λa=>(a.1,Uc a.2);rw [z4] at this;refine this.trans (.of_eq ?_);refine (yM λx _=>?_).trans (List.map_id fs);rfl
 ·rw [e,yO] at s;exact s
theorem qu (bs:List Int):(bs.map V.int).all dB=true:=by rw [yj];intro x hx;obtain ⟨b,_,rfl⟩:=zP.mp hx;rfl
theorem cQ {x:Int}{bs:List Int}:sL (.int x) (bs.map V.int)=decide (x∈bs):=by
 unfold sL;induction bs with
 | nil=>rfl
 | cons b bs ih=>
  rw [zo,xQ,ih];by_cases h:x=b
  ·subst h;simp [Nc]
  ·have h':¬ b=x:=λz=>h z.symm;simp [Nc,h,h']
noncomputable def Zh (p lf:Addr)(w:Int)(n:Nat)(H:Hp)(i:Nat)(σ:St)(H3:Hp):Prop:=
 ∃ v6 v7 v8 v9 v10 wh lb bs,∃ fs:List (Addr×M4),σ=[some (.ref p),some (.int w),some (.int n),some (.ref lf),some (.int wh),some (.ref lb),v6,v7,v8,v9,v10,none] /\
  H3 lf=some (.lst (fs.map λa=>V.ref a.1))/\H3 lb=some (.lst (List.map V.int bs))/\lb≠lf/\lb≠p/\(∀ a∈fs,H3 a.1=some (.tup (a.2.row.map V.int)))/\V2 w wh bs fs/\fs.length=i/\bs.length<=2 * i/\1<=wh/\wh<=10000000 + 16000000 * i/\Go p H H3
theorem Zh.step {p lf lb t:Addr}{w wh gap one other m:Int}{n i:Nat}{H Hx:Hp}{bs bs':List Int}{fs:List (Addr×M4)}{v6 v7 v8 v9 v10:Option V}(Rf:lf≠p)(Wc:H lf=none)
  (F:V2 w wh bs fs) (Qi:fs.length=i) (U0:bs'.length<=2 * i + 2) (Yu:1<=wh) (Zo:wh<=10000000 + 16000000 * i) (hf:Hx lf=some (.lst (fs.map λa=>V.ref a.1))) (hb:Hx lb=some (.lst (List.map V.int bs'))) (nb:lb≠lf) (Xc:lb≠p)
  (rows:∀ a∈fs,Hx a.1=some (.tup (a.2.row.map V.int))) (go:Go p H Hx) (ht:Hx t=none)
  (g0:0<=gap) (g1:gap<=16000000) (o0:0<=one) (o1:one < w) (p0:0<=other) (p1:other < w) (ne:one≠other) (m0:1<=m) (m1:m<=99) (hg:gap=0->one ∉ bs/\other ∉ bs) (hb0:∀ x∈bs,gap=0->x∈bs') (mj:one∈bs') (qm:other∈bs') :
  Zh p lf w n H (i + 1) [some (.ref p),some (.int w),some (.int n),some (.ref lf),some (.int (wh + gap)),some (.ref lb),v6,v7,v8,v9,v10,none]
   (upd (upd Hx t (.tup [.int (wh + gap),.int (if other < one then other else one),.int (if other > one then other else one),.int m])) lf (.lst ((fs.map λa=>V.ref a.1)++[.ref t]))):=by
 have ntf:t≠lf:=(xh hf ht).symm;refine ⟨v6,v7,v8,v9,v10,wh + gap,lb,bs',fs++[(t,⟨if other < one then other else one,if other > one then other else one,wh + gap,m⟩)],rfl,by rw [xb,zI];rfl,?_,nb,Xc,λa ha=>?_,F.step Yu g0 o0 o1 p0 p1 ne m0 m1 hg hb0 mj qm,by rw [zE,Qi];rfl,by omega,by omega,by omega,λb u nb e=>?_,?_⟩
 ·rw [xj nb,xj (xh hb ht)];exact hb
 ·rcases zT.mp ha with h | h
  ·have:=rows a h;rw [xj (cT this hf (by intro z;cases z)),xj (xh this ht)];exact this
  ·cases zF.mp h;rw [xj ntf,xb];rfl
 ·rw [xj (xh e Wc),xj (xh (go.1 b u nb e) ht)];exact go.1 b u nb e
 ·have:=go.2.new (o:=.tup [.int (wh + gap),.int (if other < one then other else one),.int (if other > one then other else one),.int m]) ht;obtain ⟨x,y,z,e⟩:=this;exact ⟨x,y,z,by rw [xj Rf.symm];exact e⟩
theorem UJ {one x w:Int}(o0:0<=one)(o1:one < w)(x0:0<=x)(x1:x < w - 1):0<=(one + 1 + x) % w/\(one + 1 + x) % w < w/\one≠(one + 1 + x) % w:=by
 refine ⟨yq _ (by omega),yW _ (by omega),?_⟩;by_cases h:one + 1 + x < w
 ·rw [Int.emod_eq_of_lt (by omega) h];omega
 ·have e:(one + 1 + x) % w=(one + 1 + x - w) % w:=by
   have:one + 1 + x=(one + 1 + x - w) + w:=by omega
   rw [this,Int.add_emod_right];congr 1;omega
  rw [e,Int.emod_eq_of_lt (by omega) (by omega)];omega
theorem Go.same {p:Addr}{H H1 H2:Hp}(a:Go p H H1)(s:aB H1 H2):Go p H H2:=⟨λb u n e=>s b u (a.1 b u n e),by obtain ⟨x,y,z,e⟩:=a.2;exact ⟨x,y,z,s _ _ e⟩⟩
theorem wN {α:Type}{f:α->V}{l:List α}{i:Nat}{x:V}(h:(l.map f)[i]?=some x):∃ r,l[i]?=some r/\x=f r:=by
 rw [zS] at h;cases e:l[i]? with
 | none=>rw [e] at h;cases h
 | some r=>rw [e] at h;exact ⟨r,rfl,(Option.some.inj h).symm⟩
theorem wj {α:Type}{l:List α}{i:Nat}{r:α}(h:l[i]?=some r):l.take (i + 1)=l.take i++[r]:=by rw [List.take_add_one,h];rfl
theorem bY.same {p:Addr}{H H1 H2:Hp}(hp:H p=none)(s:aB H H1)(g:bY p H1 H2):aB H H2:=λb u e=>g b u (xh e hp) (s b u e)
theorem aB.put {l:Addr}{H H':Hp}{o:HO}(h:H l=none)(s:aB H H'):aB H (upd H' l o):=λb u e=>by rw [xj (xh e h)];exact s b u e
theorem aN.same {H H':Hp}{b tr tm:Addr}{af:List Int}{ps:List (Addr×M4)}(a:aN H b af tr tm ps)(t:aB H H'):aN H' b af tr tm ps:=a.aS (bV.same t)
theorem jq {H:Hp}{l:Addr}{xs:List V}(h:H l=some (.lst xs)):jr H (.ref l)=some "list" := by simp only [jr,h]
noncomputable def MC:Sp:=λvs H Q _=>∃ x t,vs=[x]/\jr H x=some t/\Q (.bl (t == "int")) H
noncomputable def eX (lo hi:Int):V->Bool
 | .int i=>decide (lo<=i) && decide (i<=hi)
 | _=>false
noncomputable def O9:Sp:=λvs H Q _=>∃ x t lo hi,vs=[x,.int lo,.int hi]/\jr H x=some t/\Q (.bl (eX lo hi x)) H
noncomputable def Um:Sp:=λvs H Q _=>∃ x t,vs=[x]/\jr H x=some t/\Q (.bl (eX 0 1000000000 x)) H
theorem Rt {H:Hp}{x:V}(h:jr H x=some "int"):∃ i,x=.int i:=by
 cases x with
 | int i=>exact ⟨i,rfl⟩
 | ref a=>
  unfold jr at h;dsimp only at h;split at h <;> simp at h
 | _=>simp [jr] at h
theorem Vb {H:Hp}{x:V}{t:String}{lo hi:Int}(h:jr H x=some t)(n:¬ t = "int"):eX lo hi x=false:=by
 cases x with
 | int i=>simp [jr] at h;exact absurd h.symm n
 | _=>rfl
noncomputable def aay (w:Int)(r:M4):Bool:=decide (r.lo=w) || decide (r.hi=w)
noncomputable def numsTo (ms:List M4)(w:Int):Nat->List Int
 | 0=>[]
 | i + 1=>numsTo ms w i++(if (ms[i]?).any (aay w)=true then [(i:Int)] else [])
noncomputable def cnt (ms:List M4)(t:Int):Nat:=(ms.filter λr=>decide (r.t<=t)).length
theorem uI {ms:List M4}{t:Int}{i:Nat}{r:M4}(h:ms[i]?=some r):cnt (ms.take (i + 1)) t=cnt (ms.take i) t + (if r.t<=t then 1 else 0):=by unfold cnt;rw [wj h,List.filter_append,zE];congr 1;by_cases c:r.t<=t <;> simp [c]
noncomputable def Pj:Sp:=λvs H Q _=>∃ b t af tr tm ps,vs=[.ref b,.int t]/\aN H b af tr tm ps/\ps.length<=1000/\∀ H',aB H H'->Q (.int (cnt (ps.map (·.2)) t)) H'
noncomputable def mV:Sp:=λvs H Q _=>∃ p b j af tr tm ps,vs=[.ref p,.ref b,.int j]/\(j=0\/j=1)/\aN H b af tr tm ps/\Good af.length (ps.map (·.2))/\bU H p/\∀ d H',0<=d->d<=1000000000->Go p H H'->Q (.int d) H'
noncomputable def Pe:Sp:=λvs H Q _=>∃ p b af tr tm ps,vs=[.ref p,.ref b]/\aN H b af tr tm ps/\1<=af.length/\af.length<=1000/\Good af.length (ps.map (·.2))/\bU H p /\
 ∀ t (s a w z:Int) H',Go p H H'->H' t=some (.tup [.int s,.int a,.int w,.int z])->0<=s->s < af.length->0<=w->w < af.length->0<=a->a<=1000000000->0<=z->z<=1000000000->Q (.ref t) H'
theorem Good.len {w:Int}{ps:List (Addr×M4)}(g:Good w (ps.map (·.2))):ps.length<=60:=by simpa using g.jY
theorem Good.at {w:Int}{ps:List (Addr×M4)}(g:Good w (ps.map (·.2))){r:Addr×M4}(h:r∈ps):0<=r.2.lo/\r.2.lo < r.2.hi/\r.2.hi < w/\1<=r.2.t/\r.2.t<=1000000000/\1<=r.2.m/\r.2.m<=99:=g.each _ (zP.mpr ⟨r,h,rfl⟩)
end Sm
namespace L2
open PySem PySem.Spec PyProof.Rows
section
variable {X:Cx}
noncomputable def oV:Option Int->V
 | none=>.cI
 | some i=>.int i
end
end L2
namespace Sm
open PySem L2 aZ
noncomputable def Th (H:Hp)(x:V)(r:Option (List V)):Prop:=
 (∃ t,jr H x=some t/\t ≠ "tuple" /\ r=none)\/(∃ a xs,x=.ref a/\H a=some (.tup xs)/\(∀ e∈xs,∃ t,jr H e=some t)/\r=some xs)
noncomputable def isLet (w:Int):Option (List V)->Bool
 | some [a,b,c,d]=>eX 0 (w - 1) a && (eX 0 1000000000 b && (eX 0 (w - 1) c && eX 0 1000000000 d))
 | _=>false
noncomputable def vB:Sp:=λvs H Q _=>∃ b x t af tr tm ps,vs=[.ref b,x]/\aN H b af tr tm ps/\jr H x=some t/\Q (.bl (eX 0 ((af.length:Int) - 1) x)) H
noncomputable def vD:Sp:=λvs H Q _=>∃ b x r af tr tm ps,vs=[.ref b,x]/\aN H b af tr tm ps/\Th H x r/\Q (.bl (isLet af.length r)) H
theorem jo {H:Hp}{l:Addr}{xs:List V}(h:H l=some (.tup xs)):jr H (.ref l)=some "tuple" := by simp only [jr,h]
theorem sQ {H H':Hp}{x:V}{t:String}(s:aB H H')(h:jr H x=some t):jr H' x=some t:=by
 cases x with
 | ref a=>
  unfold jr at h ⊢;dsimp only at h ⊢;cases e:H a with
  | none=>rw [e] at h;simp at h
  | some o=>rw [e] at h;rw [s a o e];exact h
 | _=>exact h
theorem rH {n k:Nat}(h:k < n):Qm n (k:Int)=some k:=by unfold Qm;rw [if_pos (by omega),if_pos (by omega)];simp
end Sm
namespace L2
open PySem PySem.Spec PyProof.Rows
theorem MP {α:Type}(l:List α):∀ n,n<=l.length->(List.range n).filterMap (λk=>l[k]?)=l.take n
 | 0,_=>by simp
 | n + 1,h=>by
  have hn:n < l.length:=h;rw [xH,List.filterMap_append,MP l n (by omega),List.take_add_one];simp [hn]
theorem uz {α β:Type}{f g:α->Option β}:∀ {l:List α},(∀ x∈l,f x=g x)->l.filterMap f=l.filterMap g
 | [],_=>rfl
 | x::l,h=>by
  rw [yd,yd,h x (.head _),uz λy hy=>h y (.tail _ hy)]
theorem Pz {α:Type}(l:List α):((List.range l.length).map λk:Nat=>((l.length:Int) - 1 + -1 * (k:Int)).toNat).filterMap (λj=>l.toArray[j]?)=l.reverse:=by
 rw [List.filterMap_map];have h:=MP l.reverse l.length (by simp);rw [show l.reverse.take l.length=l.reverse from by rw [<-List.length_reverse];exact zn] at h;rw [<-h];refine uz λk hk=>?_;have TH:=zm.mp hk;have e:((l.length:Int) - 1 + -1 * (k:Int)).toNat=l.length - 1 - k:=by omega
 show l.toArray[((l.length:Int) - 1 + -1 * (k:Int)).toNat]?=_;rw [e,List.getElem?_reverse TH];simp
theorem oZ (aC:List Value):slicePick aC.toArray none none (some (-1))=aC.reverse.toArray:=by
 unfold slicePick;have e:sliceBounds none none (some (-1)) aC.toArray.size=((aC.length:Int) - 1,-1,-1):=by
  unfold sliceBounds;simp
 rw [e];have r:sliceRange ((aC.length:Int) - 1) (-1) (-1)=(List.range aC.length).map λk:Nat=>((aC.length:Int) - 1 + -1 * (k:Int)).toNat:=by
  unfold sliceRange;have c:(if (-1:Int) > 0 then (if (aC.length:Int) - 1 < -1 then (-1 - ((aC.length:Int) - 1) + -1 - 1) / -1 else 0) else (if (aC.length:Int) - 1 > -1 then ((aC.length:Int) - 1 - -1 - -1 - 1) / (- -1) else 0))=(aC.length:Int):=by
   rw [if_neg (by decide)];have e1:(- -1:Int)=1:=by decide
   rw [e1,Int.ediv_one];split <;> omega
  simp only [c];simp
 rw [r];exact congrArg List.toArray (Pz aC)
section
variable {X:Cx}{e:Expr}{te:TE} {pos p2 p3 p4:Pos}{j:Nat}
noncomputable def Wz (K:PySem.W.Frag)(te:TE):TE:=fun σ H Q=>te σ H λx H1=>∃ a xs,x=.ref a/\aL K H1 a xs/\∀ p,H1 p=none->Q (.ref p) (upd H1 p (.lst xs.reverse))
theorem Sb {K:PySem.W.Frag}(hK:X.K=K)(he:PE X e te):PE X (.Subscript e (.Slice none none (some (.UnaryOp .USub (.Constant (.int 1) j p4) p3)) p2) pos) (Wz K te):=by subst hK;intro aa s σ H Q I h;refine Subscript_ (bu (he aa s σ H _ I h) λv s1 ⟨x,H1,I1,r1,q1⟩=>?_);have st:PO X (some (.UnaryOp .USub (.Constant (.int 1) j p4) p3)) (kY (S7 (rU λi=>.int (-i)) (tC (.int 1)))):=qZ (Tg O1 xg);refine wpAny_Slice ?_;rw [evalPart_none];refine wpAny_pure (wpAny_pure ?_);refine bu (st aa s1 σ H1 (λo H'=>o=some (-1)/\H'=H1) I1 ⟨1,rfl,-1,rfl,rfl,rfl⟩) λvs s3 h3=>?_;obtain ⟨o,H',I3,ps,rfl,rfl⟩:=h3;have I4:Inv X aa σ H' { s3 with heap:=s3.heap.push { cls:=.type "slice", data:=.fields #[.none,.none,vs] } }:=I3.kept (t':=s3.toks) λb ob q=>Heap.get?_push_of_some _ q;obtain ⟨a,xs,rfl,hx,q⟩:=q1;cases r1;obtain ⟨aC,r,ht,hz⟩:=I4.list hx;have hlen:=r.length;show wpAny (model X.prog X.w) X.A (subscriptTail e (.Slice none none (some (.UnaryOp .USub (.Constant (.int 1) j p4) p3)) p2) (.ref a) (.ref s3.heap.objs.size)) (EP X aa σ Q) X.xe { s3 with heap:=s3.heap.push { cls:=.type "slice", data:=.fields #[.none,.none,vs] } };refine tail_any (ops:=[.ref a,.ref s3.heap.objs.size]) ht.isList.typeIs slot_list_getitem.lookup ?_ (by with_unfolding_all rfl);refine wpAny_getItem_list_slice ht.isList (Heap.IsSliceOf.new ..) .none .none ps (by simp) ?_ (by rw [zQ] <;> omega);rw [oZ];refine ⟨.ref _,_,I4.laid (t':=s3.toks) (o:=.lst xs.reverse) (λb ob q=>Heap.get?_push_of_some _ q) (zD _) ?_,rfl,q _ (I4.aY.fresh (zD _))⟩;exact ⟨by rw [List.length_reverse];exact hz,_,0,r.reverse,Heap.get?_push_size _ rfl⟩
end
end L2
namespace Sm
open PySem L2 aZ
noncomputable abbrev Fn:=Nat->Option Int
noncomputable def put (f:Fn)(k:Nat)(x:Option Int):Fn:=λi=>if i=k then x else f i
theorem dP {f:Fn}{k:Nat}{x:Option Int}:put f k x k=x:=by unfold put;rw [if_pos rfl]
theorem jd {f:Fn}{k i:Nat}{x:Option Int}(h:i≠k):put f k x i=f i:=by unfold put;rw [if_neg h]
noncomputable def aI (k:Nat)(x:Int):Fn:=λi=>if i=k then some x else none
noncomputable def below (o:Option Int)(t:Int):Bool:=match o with
 | some y=>decide (y < t)
 | none=>false
theorem bO {o:Option Int}{t:Int}:below o t=true↔∃ y,o=some y/\y < t:=by cases o <;> simp [below]
noncomputable def cK (o:Option Int)(t:Int):Bool:=match o with
 | some y=>decide (y<=t)
 | none=>false
theorem bq {o:Option Int}{t:Int}:cK o t=true↔∃ y,o=some y/\y<=t:=by cases o <;> simp [cK]
structure W3 where
 g:Nat
 o:Nat
 t:Int
noncomputable def two (m:M4):List W3:=[⟨m.lo.toNat,m.hi.toNat,m.t⟩,⟨m.hi.toNat,m.lo.toNat,m.t⟩]
noncomputable def bN (ms:List M4):List W3:=ms.flatMap two
noncomputable def aJ (st:Fn)(x:W3):Fn:=if st x.o=none/\below (st x.g) x.t=true then put st x.o (some x.t) else st
noncomputable def fwd (ms:List M4)(st:Fn):Fn:=(bN ms).foldl aJ st
theorem cV {st:Fn}{x:W3}{i:Nat}{y:Int}(h:st i=some y):aJ st x i=some y:=by
 unfold aJ;split
 ·rename_i c;by_cases e:i=x.o
  ·rw [e,c.1] at h;cases h
  ·rw [jd e];exact h
 ·exact h
theorem Oq {st:Fn}{x:W3}(hs:∀ i y,st i=some y->y<=x.t\/∀ j,st j≠none->j=i)(L3:x.g≠x.o):∀ i y,aJ st x i=some y->y<=x.t\/∀ j,aJ st x j≠none->j=i:=by
 unfold aJ;split
 ·rename_i c;obtain ⟨z,hz,zt⟩:=bO.mp c.2;intro i y h;by_cases e:i=x.o
  ·rw [e,dP] at h;cases h;exact .inl (zp _)
  ·rw [jd e] at h;rcases hs i y h with q | q
   ·exact .inl q
   ·have:x.g=i:=q x.g (by rw [hz];simp);rw [<-this,hz] at h;cases h;exact .inl (by omega)
 ·exact hs
noncomputable def Ord (t:Int)(ms:List M4):Prop:=(∀ m∈ms,t<=m.t/\m.lo.toNat≠m.hi.toNat)/\ms.Pairwise λa b=>a.t<=b.t
theorem Good.ord {w:Int}{ms:List M4}(g:Good w ms):Ord 1 ms:=by
 refine ⟨λm hm=>?_,g.order.imp λh=>?_⟩
 ·obtain ⟨a1,a2,a3,a4,_⟩:=g.each m hm;exact ⟨a4,by omega⟩
 ·rcases h with h | h
  ·omega
  ·omega
noncomputable def rep (n:Nat)(f:Fn):List (Option Int):=(List.range n).map f
theorem jC (n:Nat)(f:Fn):(rep n f).length=n:=by simp [rep]
theorem l7 {n k:Nat}{f:Fn}(h:k < n):(rep n f)[k]?=some (f k):=by simp [rep,h]
theorem vL {n k:Nat}{f:Fn}(h:k < n):((rep n f).map oV)[k]?=some (oV (f k)):=by rw [zS,l7 h];rfl
theorem RX {n k:Nat}{f:Fn}{x:Option Int}(h:k < n):(rep n f).set k x=rep n (put f k x):=by
 apply List.ext_getElem?
 intro i;rw [List.getElem?_set];by_cases e:k=i
 ·subst e;rw [if_pos rfl,if_pos (by rw [jC];exact h),l7 h,dP]
 ·rw [if_neg e];by_cases hi:i < n
  ·rw [l7 hi,l7 hi,jd λz=>e z.symm]
  ·rw [List.getElem?_eq_none (by rw [jC];omega),List.getElem?_eq_none (by rw [jC];omega)]
structure W4 where
 n:Nat
 w:W3
noncomputable def W4.vs (x:W4):List V:=[.int x.n,.int x.w.g,.int x.w.o,.int x.w.t]
noncomputable def dI (ms:List M4):Nat->List W4
 | 0=>[]
 | i + 1=>dI ms i++(match ms[i]? with
  | some m=>[⟨i,⟨m.lo.toNat,m.hi.toNat,m.t⟩⟩,⟨i,⟨m.hi.toNat,m.lo.toNat,m.t⟩⟩]
  | none=>[])
theorem i8 {ms:List M4}{i:Nat}{m:M4}(h:ms[i]?=some m):dI ms (i + 1)=dI ms i++[⟨i,⟨m.lo.toNat,m.hi.toNat,m.t⟩⟩,⟨i,⟨m.hi.toNat,m.lo.toNat,m.t⟩⟩]:=by
 conv=>lhs;unfold dI
 rw [h]
theorem mG (ms:List M4):∀ i,i<=ms.length->(dI ms i).map (·.w)=bN (ms.take i)
 | 0,_=>by simp [dI,bN]
 | i + 1,h=>by
  have hi:i < ms.length:=h;have e:ms[i]?=some ms[i]:=by simp [hi]
  rw [i8 e,zI,mG ms i (by omega),wj e];unfold bN;rw [List.flatMap_append];rfl
theorem Np (ms:List M4):(dI ms ms.length).map (·.w)=bN ms:=by rw [mG ms _ (zD _),zn]
theorem Nr (ms:List M4):(bN ms).length=2 * ms.length:=by
 induction ms with
 | nil=>rfl
 | cons m ms ih=>
  have:bN (m::ms)=two m++bN ms:=by unfold bN;rw [List.flatMap_cons]
  rw [this,zE,ih,zX];show 2 + _=_;omega
theorem kc {w:Int}{ms:List M4}(g:Good w ms){x:W3}(h:x∈bN ms):(x.g:Int) < w/\(x.o:Int) < w/\1<=x.t/\x.t<=1000000000/\x.g≠x.o:=by
 unfold bN at h;obtain ⟨m,hm,hx⟩:=yk.mp h;obtain ⟨a1,a2,a3,a4,a5,_⟩:=g.each m hm;unfold two at hx;simp only [zH,yl,or_false] at hx;rcases hx with rfl | rfl
 ·exact ⟨by show (m.lo.toNat:Int) < w;omega,by show (m.hi.toNat:Int) < w;omega,a4,a5,by show m.lo.toNat≠m.hi.toNat;omega⟩
 ·exact ⟨by show (m.hi.toNat:Int) < w;omega,by show (m.lo.toNat:Int) < w;omega,a4,a5,by show m.hi.toNat≠m.lo.toNat;omega⟩
theorem vV {o:Option Int}:(oV o=.cI)↔o=none:=by cases o <;> simp [oV]
noncomputable def RN:Sp:=λvs H Q _=>∃ o t,vs=[oV o,.int t]/\Q (.bl (below o t)) H
noncomputable def Ul:Sp:=λvs H Q _=>∃ o t,vs=[oV o,.int t]/\Q (.bl (cK o t)) H
noncomputable def Uw:Sp:=λvs H Q _=>∃ b,∃ k:Nat,∃ x af tr tm ps,vs=[.ref b,.int k,.int x]/\aN H b af tr tm ps/\af.length<=1000/\∀ l H',H l=none->aB H H'->H' l=some (.lst ((rep af.length (aI k x)).map oV))->Q (.ref l) H'
noncomputable def Uk:Sp:=λvs H Q _=>∃ b af tr tm ps,vs=[.ref b]/\aN H b af tr tm ps/\Good af.length (ps.map (·.2))/\∀ l (ws:List (Addr×W4)) H',H l=none->aB H H'->H' l=some (.lst (ws.map λa=>V.ref a.1))->(∀ a∈ws,H' a.1=some (.tup a.2.vs))->ws.map (·.2)=dI (ps.map (·.2)) ps.length->Q (.ref l) H'
noncomputable def RD:Sp:=λvs H Q _=>∃ b,∃ k:Nat,∃ x af tr tm ps,vs=[.ref b,.int k,.int x]/\k < af.length/\aN H b af tr tm ps/\af.length<=1000/\Good af.length (ps.map (·.2))/\∀ l H',H l=none->aB H H'->H' l=some (.lst ((rep af.length (fwd (ps.map (·.2)) (aI k x))).map oV))->Q (.ref l) H'
end Sm
namespace L2
open PySem PySem.Spec PyProof.Rows
section
variable {n:Nat}{caps:List Nat}{g:TG}{tc:TT}{te:TE}{σ:St}{H:Hp}{Qf:Addr->Hp->List V->Prop}
theorem gj {lo:Int}{m:Nat}(Pv:Nat->St->List V->Hp->Prop)(h0:Pv 0 (d9 n caps σ) [] H)(hn:m<=1000)(hl:∀ i τ acc H,Pv i τ acc H->acc.length<=i)
  (hs:∀ i τ acc H (C:St->List V->Hp->Prop),i < m->Pv i τ acc H->(∀ τ acc H,Pv (i + 1) τ acc H->C τ acc H)->g (.int (lo + i)) τ H fun bT H2=>tc bT H2 λb H3=>if b=true then te bT H3 λy H4=>C bT (acc++[y]) H4 else C bT acc H3)
  (hd:∀ τ acc H,Pv m τ acc H->∀ p,H p=none->Qf p H acc) :
  ∃ W:Nat->Nat->St->List V->Hp->Prop,(∃ m,W 0 m (d9 n caps σ) [] H)/\∀ i m' τ acc H,W i m' τ acc H ->
   ((Mu lo m).stop i H/\acc.length<=sizeLine/\∀ p,H p=none->Qf p H acc) \/
   ((Mu lo m).go i H/\acc.length < sizeLine/\∀ x H',(Mu lo m).sM i H x H'->g x τ H' fun bT H2=>tc bT H2 λb H3=>if b=true then te bT H3 λy H4=>∃ Qd,Qd < m'/\W (i + 1) Qd bT (acc++[y]) H4 else ∃ Qd,Qd < m'/\W (i + 1) Qd bT acc H3):=
 jR (J:=Mu lo m) Pv m h0 hn hl (λi τ acc H hi p=>hi) (fun τ acc H p=>zD _)
  (λi τ acc H C hi p c x H' y=>by obtain ⟨e1,e2⟩:=y;subst e1;subst e2;exact hs i τ acc _ C hi p c) hd
end
end L2
namespace Sm
open PySem L2 aZ
noncomputable def run (ws:List W3)(st:Fn):Fn:=ws.foldl aJ st
theorem dN:∀ {ws:List W3}{st:Fn}{i:Nat}{y:Int},st i=some y->run ws st i=some y
 | [],_,_,_,h=>h
 | w::ws,st,i,y,h=>dN (ws:=ws) (cV h)
theorem jB:∀ {ws:List W3}{st:Fn}{i:Nat}{t:Int},run ws st i=some t->st i=none->∃ x∈ws,x.o=i/\x.t=t/\∃ y,run ws st x.g=some y/\y < t
 | [],st,i,t,h,h0=>by
  have:st i=some t:=h;rw [h0] at this;cases this
 | w::ws,st,i,t,h,h0=>by
  have h':run ws (aJ st w) i=some t:=h;cases e:aJ st w i with
  | none=>
   obtain ⟨x,hx,a,b,y,hy,lt⟩:=jB h' e;exact ⟨x,.tail _ hx,a,b,y,hy,lt⟩
  | some z=>
   have z':=dN (ws:=ws) e;rw [h'] at z';cases z';unfold aJ at e;split at e
   ·rename_i c;by_cases io:i=w.o
    ·subst io;rw [dP] at e;cases e;obtain ⟨y,hy,lt⟩:=bO.mp c.2;exact ⟨w,.head _,rfl,rfl,y,dN (ws:=w::ws) hy,lt⟩
    ·rw [jd io,h0] at e;cases e
   ·rw [h0] at e;cases e
theorem nj:∀ {ws:List W3}{st:Fn},(∀ x∈ws,x.g≠x.o)->ws.Pairwise (λa b=>a.t<=b.t)->(∀ x∈ws,∀ i y,st i=some y->y<=x.t\/∀ j,st j≠none->j=i) ->
  ∀ x∈ws,∀ y,run ws st x.g=some y->y < x.t->∃ e,run ws st x.o=some e/\e<=x.t
 | w::ws,st,ne,pw,hs,x,hx,y,hy,lt=>by
  obtain ⟨p1,p2⟩:=List.pairwise_cons.mp pw;rcases zH.mp hx with rfl | hx
  ·cases e:st x.g with
   | none=>
    obtain ⟨z,hz,a,b,_⟩:=jB (ws:=x::ws) hy e;rcases zH.mp hz with rfl | hz
    ·exact absurd a.symm (ne z (.head _))
    ·have:=p1 z hz;omega
   | some z=>
    have:=dN (ws:=x::ws) e;rw [hy] at this;cases this;cases eo:st x.o with
    | none=>
     refine ⟨x.t,?_,zp _⟩;show run ws (aJ st x) x.o=some x.t;refine dN ?_;unfold aJ;rw [if_pos ⟨eo,bO.mpr ⟨y,e,lt⟩⟩,dP]
    | some z=>
     refine ⟨z,dN (ws:=x::ws) eo,?_⟩;rcases hs x (.head _) _ _ eo with q | q
     ·exact q
     ·exact absurd (q x.g (by rw [e];simp)) (ne x (.head _))
  ·refine nj (ws:=ws) (st:=aJ st w) (λa ha=>ne a (.tail _ ha)) p2 (λa ha i z hz=>?_) x hx y hy lt;have base:∀ i y,st i=some y->y<=w.t\/∀ j,st j≠none->j=i:=hs w (.head _);rcases Oq (x:=w) base (ne w (.head _)) i z hz with q | q
   ·exact .inl (Int.le_trans q (p1 a ha))
   ·exact .inr q
theorem sN:∀ {ms:List M4},ms.Pairwise (λa b=>a.t<=b.t)->(bN ms).Pairwise (λa b=>a.t<=b.t)
 | [],_=>.nil
 | m::ms,h=>by
  obtain ⟨h1,h2⟩:=List.pairwise_cons.mp h;have e:bN (m::ms)=two m++bN ms:=by unfold bN;rw [List.flatMap_cons]
  rw [e,yr];refine ⟨?_,sN h2,λa ha b hb=>?_⟩
  ·unfold two;refine .cons (λx hx=>?_) (ya _ _);cases zF.mp hx;exact zp _
  ·have ta:a.t=m.t:=by
    unfold two at ha;simp only [zH,yl,or_false] at ha;rcases ha with rfl | rfl <;> rfl
   unfold bN at hb;obtain ⟨r,hr,hx⟩:=yk.mp hb;have tb:b.t=r.t:=by
    unfold two at hx;simp only [zH,yl,or_false] at hx;rcases hx with rfl | rfl <;> rfl
   rw [ta,tb];exact h1 r hr
structure Yt (w:Nat) (ws:List W3) (s:Nat) (x:Int) (E:Fn):Prop where
 self:E s=some x
 adp:∀ i t,i≠s->E i=some t->∃ a∈ws,a.o=i/\a.t=t/\∃ y,E a.g=some y/\y < t
 aaO:∀ a∈ws,∀ y,E a.g=some y->y < a.t->∃ e,E a.o=some e/\e<=a.t
 inside:∀ a∈ws,a.g < w/\a.o < w
theorem kP {n s:Nat}{x:Int}{ms:List M4}(g:Good n ms):Yt n (bN ms) s x (fwd ms (aI s x)):=by
 refine ⟨?_,λi t ne h=>?_,?_,λa ha=>?_⟩
 ·exact dN (ws:=bN ms) (by simp [aI])
 ·exact jB (ws:=bN ms) h (by simp [aI,ne])
 ·refine nj (λa ha=>(kc g ha).2.2.2.2) (sN g.ord.2) (λa ha i y h=>.inr λj hj=>?_);unfold aI at h hj;by_cases e:i=s
  ·by_cases e':j=s
   ·rw [e,e']
   ·rw [if_neg e'] at hj;exact absurd rfl hj
  ·rw [if_neg e] at h;cases h
 ·obtain ⟨a1,a2,_⟩:=kc g ha;omega
noncomputable def pW (n:Nat)(E:Fn)(t:Int):Nat:=(List.range n).countP λj=>below (E j) t
end Sm
namespace L2
open PySem PySem.Spec PyProof.Rows
section
variable {X:Cx}{aa:List (Addr×Obj)}{σ:St}{H:Hp}{s:Shared}
theorem Inv.keptAll {m:Str->Option Value}{h':Heap}{tk:Nat}(I:Inv X aa σ H s)(F0:Fr X.base X.env.locals s.heap m)(F:Fr X.base X.env.locals h' m)
  (N:News X.base X.env.locals h' (gu X.base s.heap X.env.locals)):Inv X aa σ H { s with heap:=h',toks:=tk }:=by
 have keep:∀ b o,b≠X.env.locals->s.heap.get? b=some o->h'.get? b=some o:=λb o hb e=>by
  cases q:X.base.get? b with
  | some u=>
   have:=I.bk b u q;rw [e] at this;cases this;exact F.keep b _ q
  | none=>exact (N (b,o) (eS hb q e)).1
 refine I.step (g':=s.gens) (t':=tk) (d':=s.drawn) (ch:=[]) (λ_ z=>nomatch z) (λb o hb _ _ e _=>keep b o hb e) (λb o hb _ _ e _=>⟨o.slots,keep b o hb e⟩) (λb o _ e n=>n) (λb o _ e=>?_)
  (λb ys e=>e) (λb o u e=>e) (λb ps e=>⟨#[],by rw [e,Array.append_empty]⟩) (λm' hm=>?_) (λb u e=>?_) I.bare
 ·by_cases hb:b=X.env.locals
  ·obtain ⟨o',_,_,q,_⟩:=F.ns;exact ⟨o',by rw [hb];exact q⟩
  ·exact ⟨o,keep b o hb e⟩
 ·obtain ⟨o1,TX,ep1,e1,d1,k1,f1⟩:=hm;obtain ⟨o2,es2,ep2,e2,d2,k2,f2⟩:=F0.ns;rw [e1] at e2;cases e2;rw [d1] at d2;cases d2;obtain ⟨o3,es3,ep3,e3,d3,k3,f3⟩:=F.ns;exact ⟨o3,es3,ep3,e3,d3,k3,λname=>(f3 name).trans ((f2 name).symm.trans (f1 name))⟩
 ·refine (I.aY b u e).dJ (λc v hc q=>keep c v (λz=>?_) q) (λc q=>q) λc ys q=>q;rcases hc with rfl | hc
  ·rw [z,I.free] at e;cases e
  ·rw [z,I.free] at hc;cases hc
theorem uR:∀ {bs:List Bool}{us:List Value},Vals (bs.map V.bl) us->LSm.BoolsAre us bs
 | [],us,r=>by cases r;exact .nil
 | b::bs,us,r=>by
  cases r with
  | cons x y=>
   cases x;exact .cons b (uR y)
theorem QT {K:PySem.W.Frag}(hK:X.K=K)(hc:X.calm=true):dZ X (.builtin "all") (λxs H Q=>∃ p,∃ bs:List Bool,xs=[.ref p]/\aL K H p (bs.map V.bl)/\Q (.bl (bs.all id)) H):=by subst hK;intro aa s σ H xs us Q I r h;obtain ⟨p,bs,rfl,hq,q⟩:=h;obtain ⟨u,rfl,rx⟩:=vals1 r;cases rx;obtain ⟨aC,r',pl,hz⟩:=I.list hq;obtain ⟨m,F⟩:=I.fr;exact LSm.all_bools F (tU (g:=X.base) (h:=s.heap)) (I.ok.hd hc) pl.isList (uR r') λh' tk F' N'=>⟨.bl _,H,I.keptAll F F' N',rfl,q⟩
end
end L2
namespace Sm
open PySem L2 aZ
theorem kE {K:PySem.W.Frag}{H:Hp}{a:Addr}{xs:List V}{i:Int}{v:V}{Q:V->Prop}(h:H a=some (.tup xs))(hi:mD xs i=some v)(q:Q v):∃ p Wv i' v',V.ref a=.ref p/\V.int i=.int i'/\cD K H p Wv/\mD Wv i'=some v'/\Q v':=⟨a,xs,i,v,rfl,rfl,cD.of h,hi,q⟩
theorem lC {K:PySem.W.Frag}{H:Hp}{a:Addr}{xs:List V}{i:Int}{v:V}{Q:V->Prop}(h:H a=some (.lst xs))(hi:mD xs i=some v)(q:Q v):∃ p Wv i' v',V.ref a=.ref p/\V.int i=.int i'/\aL K H p Wv/\mD Wv i'=some v'/\Q v':=⟨a,xs,i,v,rfl,rfl,aL.of h,hi,q⟩
theorem ON {fd:FuncData}{ps:List Str}{us:List Value}(h:us.length=1)(q:∀ a,bindArgs fd ⟨[a],[]⟩=pure (ps.zip [a])):bindArgs fd ⟨us,[]⟩=pure (ps.zip us):=match us,h with | [a],_=>q a
theorem mJ {fd:FuncData}{ps:List Str}{us:List Value}(h:us.length=2)(q:∀ a b,bindArgs fd ⟨[a,b],[]⟩=pure (ps.zip [a,b])):bindArgs fd ⟨us,[]⟩=pure (ps.zip us):=match us,h with | [a,b],_=>q a b
theorem u5 {fd:FuncData}{ps:List Str}{us:List Value}(h:us.length=3)(q:∀ a b c,bindArgs fd ⟨[a,b,c],[]⟩=pure (ps.zip [a,b,c])):bindArgs fd ⟨us,[]⟩=pure (ps.zip us):=match us,h with | [a,b,c],_=>q a b c
theorem us4 {fd:FuncData}{ps:List Str}{us:List Value}(h:us.length=4)(q:∀ a b c d,bindArgs fd ⟨[a,b,c,d],[]⟩=pure (ps.zip [a,b,c,d])):bindArgs fd ⟨us,[]⟩=pure (ps.zip us):=match us,h with | [a,b,c,d],_=>q a b c d
theorem Za {j9 j8 j7 j5 j4:Type}{P:j9->j8->j7->j5->j4->Prop}(x0:j9)(x1:j8)(x2:j7)(x3:j5)(x4:j4)(h:P x0 x1 x2 x3 x4):∃ y0:j9,∃ y1:j8,∃ y2:j7,∃ y3:j5,∃ y4:j4,P y0 y1 y2 y3 y4:=⟨x0,x1,x2,x3,x4,h⟩
theorem Wm {j9 j8 j7 j5 j4 mE:Type}{P:j9->j8->j7->j5->j4->mE->Prop}(x0:j9)(x1:j8)(x2:j7)(x3:j5)(x4:j4)(x5:mE)(h:P x0 x1 x2 x3 x4 x5):∃ y0:j9,∃ y1:j8,∃ y2:j7,∃ y3:j5,∃ y4:j4,∃ y5:mE,P y0 y1 y2 y3 y4 y5:=⟨x0,x1,x2,x3,x4,x5,h⟩
theorem QI {j9 j8 j7 j5 j4 mE qL:Type}{P:j9->j8->j7->j5->j4->mE->qL->Prop}(x0:j9)(x1:j8)(x2:j7)(x3:j5)(x4:j4)(x5:mE)(x6:qL)(h:P x0 x1 x2 x3 x4 x5 x6):∃ y0:j9,∃ y1:j8,∃ y2:j7,∃ y3:j5,∃ y4:j4,∃ y5:mE,∃ y6:qL,P y0 y1 y2 y3 y4 y5 y6:=⟨x0,x1,x2,x3,x4,x5,x6,h⟩
theorem ex8 {j9 j8 j7 j5 j4 mE qL vd:Type}{P:j9->j8->j7->j5->j4->mE->qL->vd->Prop}(x0:j9)(x1:j8)(x2:j7)(x3:j5)(x4:j4)(x5:mE)(x6:qL)(x7:vd)(h:P x0 x1 x2 x3 x4 x5 x6 x7):∃ y0:j9,∃ y1:j8,∃ y2:j7,∃ y3:j5,∃ y4:j4,∃ y5:mE,∃ y6:qL,∃ y7:vd,P y0 y1 y2 y3 y4 y5 y6 y7:=⟨x0,x1,x2,x3,x4,x5,x6,x7,h⟩
theorem SN {j9 j8 j7 j5 j4 mE qL vd OW OV:Type}{P:j9->j8->j7->j5->j4->mE->qL->vd->OW->OV->Prop}(x0:j9)(x1:j8)(x2:j7)(x3:j5)(x4:j4)(x5:mE)(x6:qL)(x7:vd)(x8:OW)(x9:OV)(h:P x0 x1 x2 x3 x4 x5 x6 x7 x8 x9):∃ y0:j9,∃ y1:j8,∃ y2:j7,∃ y3:j5,∃ y4:j4,∃ y5:mE,∃ y6:qL,∃ y7:vd,∃ y8:OW,∃ y9:OV,P y0 y1 y2 y3 y4 y5 y6 y7 y8 y9:=⟨x0,x1,x2,x3,x4,x5,x6,x7,x8,x9,h⟩
theorem aaI {j9 j8 j7 j5 j4 mE qL vd OW OV ve:Type}{P:j9->j8->j7->j5->j4->mE->qL->vd->OW->OV->ve->Prop}(x0:j9)(x1:j8)(x2:j7)(x3:j5)(x4:j4)(x5:mE)(x6:qL)(x7:vd)(x8:OW)(x9:OV)(Ww:ve)(h:P x0 x1 x2 x3 x4 x5 x6 x7 x8 x9 Ww):∃ y0:j9,∃ y1:j8,∃ y2:j7,∃ y3:j5,∃ y4:j4,∃ y5:mE,∃ y6:qL,∃ y7:vd,∃ y8:OW,∃ y9:OV,∃ Zm:ve,P y0 y1 y2 y3 y4 y5 y6 y7 y8 y9 Zm:=⟨x0,x1,x2,x3,x4,x5,x6,x7,x8,x9,Ww,h⟩
theorem Yd {j9 j8 j7 j5 j4 mE qL vd OW OV ve T6:Type}{P:j9->j8->j7->j5->j4->mE->qL->vd->OW->OV->ve->T6->Prop}(x0:j9)(x1:j8)(x2:j7)(x3:j5)(x4:j4)(x5:mE)(x6:qL)(x7:vd)(x8:OW)(x9:OV)(Ww:ve)(x11:T6)(h:P x0 x1 x2 x3 x4 x5 x6 x7 x8 x9 Ww x11):∃ y0:j9,∃ y1:j8,∃ y2:j7,∃ y3:j5,∃ y4:j4,∃ y5:mE,∃ y6:qL,∃ y7:vd,∃ y8:OW,∃ y9:OV,∃ Zm:ve,∃ y11:T6,P y0 y1 y2 y3 y4 y5 y6 y7 y8 y9 Zm y11:=⟨x0,x1,x2,x3,x4,x5,x6,x7,x8,x9,Ww,x11,h⟩
theorem Rr {K:PySem.W.Frag}{H:Hp}{a:Addr}{v0 v1:V}{Q:V->V->Prop}(h:H a=some (.tup [v0,v1]))(q:Q v0 v1):∃ a' xs,V.ref a=.ref a'/\cD K H a' xs/\xs.length=2/\∃ w0 r0,xs=w0::r0/\∃ w1 r1,r0=w1::r1/\r1=[]/\Q w0 w1:=⟨a,_,rfl,cD.of h,rfl,_,_,rfl,_,_,rfl,rfl,q⟩
theorem Nu {K:PySem.W.Frag}{H:Hp}{a:Addr}{v0 v1 v2 v3:V}{Q:V->V->V->V->Prop}(h:H a=some (.tup [v0,v1,v2,v3]))(q:Q v0 v1 v2 v3):∃ a' xs,V.ref a=.ref a'/\cD K H a' xs/\xs.length=4/\∃ w0 r0,xs=w0::r0/\∃ w1 r1,r0=w1::r1/\∃ w2 r2,r1=w2::r2/\∃ w3 r3,r2=w3::r3/\r3=[]/\Q w0 w1 w2 w3:=⟨a,_,rfl,cD.of h,rfl,_,_,rfl,_,_,rfl,_,_,rfl,_,_,rfl,rfl,q⟩
theorem zr {α:Sort _}{A Q:α->Prop}{x:α}(a:A x)(q:Q x):∃ y,A y/\Q y:=⟨x,a,q⟩
theorem iD {α β:Sort _}{A Q:α->β->Prop}{x:α}{y:β}(a:A x y)(q:Q x y):∃ x y,A x y/\Q x y:=⟨x,y,a,q⟩
theorem aO {α β:Sort _}{A B Q:α->β->Prop}{x:α}{y:β}(a:A x y)(b:B x y)(q:Q x y):∃ x y,A x y/\B x y/\Q x y:=⟨x,y,a,b,q⟩
end Sm
namespace L2
open PySem PySem.Spec PyProof.Rows
section
variable {X:Cx}
theorem lQ:fillsInplaceSlot (.type "list") "add" true=pure false:=by show (do let fi <- typeLookup (.type "list") (dunderI "add");pure (fi.isSome && !isSeqSlot fi))=_;rw [F.slot_list_iadd.lookup];rfl
theorem pe:seqSlot? (.type "list") (dunderI "add")=pure (some (.builtin "list.__iadd__")):=by
 unfold seqSlot?
 rw [F.slot_list_iadd.lookup];rfl
theorem qO {prog:Program}{w:World}{A:Around}{E:Value->Shared->Prop}{s:Shared}{a b:Value}{Q:Value->Shared->Prop}(ta:s.TypeIs a "list")(tb:s.TypeIs b "list")(h:wpAny (model prog w) A (call (.builtin "list.__iadd__") [a,b]) Q E s):wpAny (model prog w) A (inplaceOp .Add a b) Q E s:=by unfold inplaceOp;refine wpAny_holding (wpAny_bind (wpAny_typeOf ta (wpAny_bind (wpAny_of_eq lQ ?_))));dsimp only;rw [if_neg zO];refine wpAny_bind (wpAny_binaryOp1_none ta tb noFill_list_add ?_);dsimp only;refine wpAny_bind (wpAny_of_eq pe ?_);dsimp only;exact wpAny_bind (wpAny_rule h)
theorem Qo:Yn X .Add (λx y H Q=>∃ l b xs zs,x=.ref l/\y=.ref b/\H l=some (.lst xs)/\H b=some (.lst zs)/\xs.length + zs.length<=sizeLine/\Q (.ref l) (upd H l (.lst (xs++zs)))):=by
 intro aa s σ H x y v u Q I rx ry h;obtain ⟨l,b,xs,zs,rfl,rfl,hH,hB,hz,q⟩:=h;cases rx;cases ry;obtain ⟨z,aC,n,r,hl,e⟩:=I.uc hH;obtain ⟨z2,fG,n2,r2,M8,e2⟩:=I.uc hB;have hsz:aC.toArray.size + fG.toArray.size<=sizeLine:=by rw [zQ,zQ];omega
 have XF:¬ (!aC.toArray.isEmpty && Builtin.List.listTooLong (aC.toArray.size + fG.toArray.size))=true:=by
  rw [P6 hsz,xK];exact zO
 refine qO ⟨_,e,rfl⟩ ⟨_,e2,rfl⟩ (call_meets F.slot_list_iadd ⟨_,e,rfl⟩ F.entry_list_iadd (F.args_list_iadd_2 _ _)
  (AutoSeq1.list___iadd___list_list_0 l aC.toArray n b fG.toArray n2 XF (by rw [zQ];omega) (by omega)) ⟨e,e2,?_⟩)
 refine ⟨.ref l,_,I.Sk (its':=aC++fG) hH e (by simp) (r.append r2) ?_,rfl,q⟩;rw [zE];omega
end
end L2
namespace Sm
open PySem L2 aZ
noncomputable def u0 (ms:List M4)(n g o:Nat)(t:Int):Prop:=∃ m,ms[n]?=some m/\m.t=t/\((m.lo.toNat=g/\m.hi.toNat=o)\/(m.lo.toNat=o/\m.hi.toNat=g))
theorem ja {ms:List M4}:∀ {i:Nat}{x:W4},x∈dI ms i->u0 ms x.n x.w.g x.w.o x.w.t
 | 0,x,h=>by cases h
 | i + 1,x,h=>by
  unfold dI at h;rcases zT.mp h with h | h
  ·exact ja h
  ·cases e:ms[i]? with
   | none=>rw [e] at h;cases h
   | some m=>
    rw [e] at h;simp only [zH,yl,or_false] at h;rcases h with rfl | rfl
    ·exact ⟨m,e,rfl,.inl ⟨rfl,rfl⟩⟩
    ·exact ⟨m,e,rfl,.inr ⟨rfl,rfl⟩⟩
noncomputable def pI (ms:List M4)(k:Nat)(f:Fn)(aF:List (Key×V))(H:Hp):Prop:=
 ∀ o t,f o=some t->o=k\/∃ tt n g y,cS aF (Sum.inl (o:Int))=some (.ref tt)/\H tt=some (.tup [.int ((n:Nat):Int),.int ((g:Nat):Int)])/\u0 ms n g o t/\f g=some y/\y < t
theorem pI.aS {ms:List M4}{k:Nat}{f:Fn}{aF:List (Key×V)}{H H':Hp}(c:pI ms k f aF H)(t:bV H H'):pI ms k f aF H':=λo x h=>by
 rcases c o x h with e | ⟨tt,n,g,y,a1,a2,a3,a4,a5⟩
 ·exact .inl e
 ·exact .inr ⟨tt,n,g,y,a1,t _ _ a2,a3,a4,a5⟩
theorem pI.step {ms:List M4}{k:Nat}{f:Fn}{aF:List (Key×V)}{H:Hp}{tt:Addr}{x:W4}(c:pI ms k f aF H)(ho:f x.w.o=none)(hb:below (f x.w.g) x.w.t=true)(hl:u0 ms x.n x.w.g x.w.o x.w.t)
  (ht:H tt=some (.tup [.int (x.n:Int),.int (x.w.g:Int)])):pI ms k (put f x.w.o (some x.w.t)) (putK aF (Sum.inl (x.w.o:Int)) (.ref tt)) H:=λo t h=>by
 have keep:∀ g y,f g=some y->put f x.w.o (some x.w.t) g=some y:=λg y e=>by rw [jd λz=>by rw [z,ho] at e;cases e];exact e
 by_cases e:o=x.w.o
 ·subst e;rw [dP] at h;cases h;obtain ⟨y,hy,lt⟩:=bO.mp hb;exact .inr ⟨tt,x.n,x.w.g,y,by rw [sO,if_pos rfl],ht,hl,keep _ _ hy,lt⟩
 ·rw [jd e] at h;rcases c o t h with e' | ⟨t2,n,g,y,a1,a2,a3,a4,a5⟩
  ·exact .inl e'
  ·refine .inr ⟨t2,n,g,y,?_,a2,a3,keep _ _ a4,a5⟩;rw [sO,if_neg λz=>e (by have:=Sum.inl.inj z;omega)];exact a1
noncomputable def Ph:Sp:=λvs H Q _=>∃ b,∃ k:Nat,∃ x af tr tm ps,vs=[.ref b,.int k,.int x]/\aN H b af tr tm ps/\af.length<=1000/\Good af.length (ps.map (·.2))/\∀ t l d aF H',H l=none->aB H H'->H' t=some (.tup [.ref l,.ref d])->H' l=some (.lst ((rep af.length (fwd (ps.map (·.2)) (aI k x))).map oV))->H' d=some (.dK aF)->pI (ps.map (·.2)) k (fwd (ps.map (·.2)) (aI k x)) aF H'->Q (.ref t) H'
noncomputable def aX (ms:List M4):Nat->Int->Int->List Int->Option (Nat×Int)
 | v,t,_,[]=>some (v,t)
 | v,t,a,n::ns=>match ms[n.toNat]? with
  | none=>none
  | some m=>if a < n/\0<=n/\(v=m.lo.toNat\/v=m.hi.toNat)/\t < m.t then aX ms (if v=m.lo.toNat then m.hi.toNat else m.lo.toNat) m.t n ns else none
theorem Nt {ms:List M4}{n g o:Nat}{y t a:Int}{ns:List Int}(h:u0 ms n g o t)(ne:g≠o)(lt:y < t)(ha:a < n):aX ms g y a ((n:Int)::ns)=aX ms o t n ns:=by
 obtain ⟨m,hm,rfl,h⟩:=h
 conv=>lhs;unfold aX
 rw [show ((n:Int)).toNat=n from by simp,hm];dsimp only;rcases h with ⟨rfl,rfl⟩ | ⟨rfl,rfl⟩
 ·rw [if_pos ⟨ha,by omega,.inl rfl,lt⟩,if_pos rfl]
 ·rw [if_pos ⟨ha,by omega,.inr rfl,lt⟩,if_neg λz=>ne z]
theorem bV.Zz {l:Addr}{H:Hp}{aF:List (Key×V)}{o:HO}(h:H l=some (.dK aF)):bV H (upd H l o):=λb u e=>by rw [xj (cT e h (by intro z;cases z))];exact e
theorem Qp {ms:List M4}(o:ms.Pairwise λa b=>a.t<=b.t){i j:Nat}{a b:M4}(hi:ms[i]?=some a)(hj:ms[j]?=some b)(lt:a.t < b.t):i < j:=by
 obtain ⟨h1,e1⟩:=zC.mp hi;obtain ⟨h2,e2⟩:=zC.mp hj;rcases Nat.lt_trichotomy i j with h | h | h
 ·exact h
 ·subst h;rw [e1] at e2;rw [e2] at lt;omega
 ·have:=zw.mp o j i h2 h1 h;rw [e1,e2] at this;omega
noncomputable def mu (n:Nat)(E:Fn)(σ:St):Nat:=match σ[9]? with
 | some (some (V.int v))=>(match E v.toNat with
  | some e=>pW n E e
  | none=>0)
 | _=>0
theorem RY {n:Nat}{E:Fn}{g:Nat}{y t:Int}(hg:g < n)(hy:E g=some y)(lt:y < t):pW n E y < pW n E t:=
 kR (λj hj=>by
  obtain ⟨z,hz,l⟩:=bO.mp hj;exact bO.mpr ⟨z,hz,by omega⟩) (zm.mpr hg) (by
   cases c:below (E g) y with
   | false=>rfl
   | true=>
    obtain ⟨z,hz,l⟩:=bO.mp c;rw [hy] at hz;cases hz;omega) (bO.mpr ⟨y,hy,lt⟩)
theorem RZ (n:Nat)(E:Fn)(t:Int):pW n E t<=n:=by unfold pW;have:=List.countP_le_length (p:=λj=>below (E j) t) (l:=List.range n);rw [yE] at this;exact this
theorem u0.inside {n g o w:Nat}{t:Int}{ms:List M4}(g0:Good w ms)(h:u0 ms n g o t):g < w/\o < w/\g≠o:=by obtain ⟨m,hm,_,h⟩:=h;obtain ⟨a1,a2,a3,_⟩:=g0.each m (zB hm);rcases h with ⟨rfl,rfl⟩ | ⟨rfl,rfl⟩ <;> omega
noncomputable def dY (H:Hp)(lt:Addr)(n s w:Nat)(a z:Int):Prop:=H lt=some (.tup [.int (s:Int),.int a,.int (w:Int),.int z])/\s < n/\w < n/\0<=a/\a<=1000000000/\0<=z/\z<=1000000000
theorem dY.same {H H':Hp}{lt:Addr}{n s w:Nat}{a z:Int}(h:dY H lt n s w a z)(e:aB H H'):dY H' lt n s w a z:=⟨e _ _ h.1,h.2⟩
theorem dY.th {H:Hp}{lt:Addr}{n s w:Nat}{a z:Int}(h:dY H lt n s w a z):Th H (.ref lt) (some [.int (s:Int),.int a,.int (w:Int),.int z]):=.inr ⟨lt,_,rfl,h.1,λe he=>by
 simp only [zH,yl,or_false] at he;rcases he with rfl | rfl | rfl | rfl <;> exact ⟨_,rfl⟩,rfl⟩
theorem dY.yes {H:Hp}{lt:Addr}{n s w:Nat}{a z:Int}(h:dY H lt n s w a z):isLet n (some [.int (s:Int),.int a,.int (w:Int),.int z])=true:=by obtain ⟨_,h1,h2,h3,h4,h5,h6⟩:=h;simp only [isLet,eX,yz,decide_eq_true_eq];omega
noncomputable def vE:Sp:=λvs H Q _=>∃ b lt,∃ s w:Nat,∃ a z af tr tm ps,vs=[.ref b,.ref lt]/\aN H b af tr tm ps/\af.length<=1000/\Good af.length (ps.map (·.2))/\dY H lt af.length s w a z /\
 (cK (fwd (ps.map (·.2)) (aI s a) w) z=false->∀ H',aB H H'->Q .cI H') /\
 (∀ e l ns H',fwd (ps.map (·.2)) (aI s a) w=some e->e<=z->H l=none->aB H H'->H' l=some (.lst (List.map V.int ns))->ns.length<=1000->aX (ps.map (·.2)) s a (-1) ns=some (w,e)->Q (.ref l) H')
theorem dF {ms:List M4}{v:Nat}{t A n:Int}{ns:List Int}{r:Nat×Int}(h:aX ms v t A (n::ns)=some r):∃ m,ms[n.toNat]?=some m/\A < n/\0<=n/\(v=m.lo.toNat\/v=m.hi.toNat)/\t < m.t/\aX ms (if v=m.lo.toNat then m.hi.toNat else m.lo.toNat) m.t n ns=some r:=by
 unfold aX at h;cases e:ms[n.toNat]? with
 | none=>rw [e] at h;cases h
 | some m=>
  rw [e] at h;dsimp only at h;split at h
  ·rename_i c;exact ⟨m,rfl,c.1,c.2.1,c.2.2.1,c.2.2.2,h⟩
  ·cases h
theorem bU.same {H H':Hp}{p:Addr}(h:bU H p)(e:aB H H'):bU H' p:=by obtain ⟨x,y,z,q⟩:=h;exact ⟨x,y,z,e _ _ q⟩
noncomputable def Ni (ws:List W3)(f:Fn):Bool:=ws.all λx=>!(below (f x.g) x.t) || cK (f x.o) x.t
noncomputable def NL:Sp:=λvs H Q _=>∃ b,∃ k:Nat,∃ v:Int,∃ af tr tm ps,∃ m:M4,vs=[.ref b,.int k,.int v]/\aN H b af tr tm ps/\(ps.map (·.2))[k]?=some m/\Q (.int (if v=m.lo then m.hi else m.lo)) H
noncomputable def vC:Sp:=λvs H Q _=>∃ b x t af tr tm ps,vs=[.ref b,x]/\aN H b af tr tm ps/\jr H x=some t/\Q (.bl (eX 0 ((ps.length:Int) - 1) x)) H
theorem jQ {n s:Nat}{x:Int}{ms:List M4}(g:Good n ms):Ni (bN ms) (fwd ms (aI s x))=true:=by
 refine yj.mpr λa ha=>?_;cases h:below (fwd ms (aI s x) a.g) a.t with
 | false=>rfl
 | true=>
  obtain ⟨y,hy,lt⟩:=bO.mp h;obtain ⟨e,he,le⟩:=(kP (s:=s) (x:=x) g).aaO a ha y hy lt;rw [bq.mpr ⟨e,he,le⟩];rfl
end Sm
namespace L2
open PySem
theorem LW {c:Bool}{A:Prop}{D:Ends}{σ:St}{H:Hp}(Pre:St->Hp->Prop)(k:∀ σ H,Pre σ H->D.nx σ H)(h1:c=true->(∀ σ H,Pre σ H->D.nx σ H)->A)(h2:c=false->Pre σ H):if c=true then A else iV D σ H:=by
 cases c with
 | true=>exact h1 rfl k
 | false=>exact k _ _ (h2 rfl)
end L2
namespace Sm
open PySem L2 aZ
noncomputable def V8 (v:Nat)(m:M4):Nat:=if v=m.lo.toNat then m.hi.toNat else m.lo.toNat
theorem pO {w:Nat}{ms:List M4}{f:Fn}(g:Good w ms)(cl:Ni (bN ms) f=true):∀ (ns:List Int) (v:Nat) (t A:Int),cK (f v) t=true->∀ v' t',aX ms v t A ns=some (v',t')->cK (f v') t'=true
 | [],v,t,A,h,v',t',e=>by
  have:=Option.some.inj e;obtain ⟨rfl,rfl⟩:=Prod.mk.inj this;exact h
 | n::ns,v,t,A,h,v',t',e=>by
  obtain ⟨m,hm,h1,h2,h3,h4,wk⟩:=dF e;refine pO g cl ns _ m.t n ?_ v' t' wk;obtain ⟨y,hy,ly⟩:=bq.mp h;have bl:below (f v) m.t=true:=bO.mpr ⟨y,hy,by omega⟩;have mem:∀ x∈two m,(!(below (f x.g) x.t) || cK (f x.o) x.t)=true:=λx hx=>yj.mp cl x (by
   unfold bN;exact yk.mpr ⟨m,zB hm,hx⟩)
  obtain ⟨a1,a2,_⟩:=g.each m (zB hm);rcases h3 with hv | hv
  ·rw [if_pos hv];have:=mem ⟨m.lo.toNat,m.hi.toNat,m.t⟩ (by unfold two;simp);dsimp only at this;rw [<-hv,bl] at this;simpa using this
  ·rw [if_neg (by omega)];have:=mem ⟨m.hi.toNat,m.lo.toNat,m.t⟩ (by unfold two;simp);dsimp only at this;rw [<-hv,bl] at this;simpa using this
noncomputable def Xn (row F:Fn)(x:W3):Fn:=if below (row x.g) x.t=true/\cK (F x.o) x.t=false then put F x.o (some x.t) else F
noncomputable def jac (ws:List W3)(row:Fn):Fn:=ws.foldl (Xn row) row
noncomputable def Of (ws:List W3)(row:Fn):Nat->Fn
 | 0=>row
 | k + 1=>jac ws (Of ws row k)
noncomputable def rk (ws:List W3):Option Int->Nat
 | none=>ws.length + 1
 | some y=>ws.countP λx=>decide (x.t < y)
end Sm
namespace L2
open PySem PySem.Spec PyProof.Rows
open AutoSeq1 (wpAny_loadPart')
theorem range_zero {β:Type}(init:β)(f:Nat->β->Sem (ForInStep β)):forIn [:0] init f=(pure init:Sem β):=by rw [Std.Legacy.Range.forIn_eq_forIn_range'];rfl
section
variable {X:Cx}
end
end L2
namespace Sm
open PySem L2 aZ
end Sm
namespace L2
open PySem
end L2
namespace Sm
open PySem L2
end Sm
namespace Sm
open PySem L2 aZ
theorem pL {n:Nat}{ms:List M4}(g:Good n ms){m:M4}{k:Nat}(hm:ms[k]?=some m):∀ {ns:List Int}{v v':Nat}{t t' A:Int},aX ms v t A ns=some (v',t')->(A=-1\/∃ i:Nat,∃ mi,A=i/\ms[i]?=some mi/\mi.t<=t)->(v'=m.lo.toNat\/v'=m.hi.toNat)->t' < m.t->aX ms v t A (ns++[(k:Int)])=some (V8 v' m,m.t)
 | [],v,v',t,t',A,h,hA,hv,ht=>by
  have:=Option.some.inj h;obtain ⟨rfl,rfl⟩:=Prod.mk.inj this;have an:A < k:=by
   rcases hA with rfl | ⟨k',m',rfl,oU,lt'⟩
   ·omega
   ·have:=Qp g.ord.2 oU hm (by omega);omega
  show aX ms v t A [(k:Int)]=_;unfold aX;rw [zy,hm];dsimp only;rw [if_pos ⟨an,by omega,hv,ht⟩];rfl
 | n0::ns,v,v',t,t',A,h,hA,hv,ht=>by
  obtain ⟨m0,hm0,h1,h2,h3,h4,wk⟩:=dF h;obtain ⟨j,rfl⟩:=zl h2;rw [zy] at hm0;show aX ms v t A ((j:Int)::(ns++[(k:Int)]))=_;unfold aX;rw [zy,hm0];dsimp only;rw [if_pos ⟨h1,h2,h3,h4⟩];exact pL g hm wk (.inr ⟨j,m0,rfl,hm0,zp _⟩) hv ht
structure Rows (H0 H:Hp) (ms:List M4) (n k:Nat) (x:Int) (as:List Addr):Prop where
 pos:as≠[]
 jY:as.length<=200000
 at':∀ (i:Nat) (a:Addr),as[i]?=some a->H0 a=none/\H a=some (.lst ((rep n (Of (bN ms) (aI k x) i)).map oV))
 ne:∀ i,i + 1 < as.length->rep n (Of (bN ms) (aI k x) (i + 1))≠rep n (Of (bN ms) (aI k x) i)
 last:rep n (Of (bN ms) (aI k x) as.length)=rep n (Of (bN ms) (aI k x) (as.length - 1))
end Sm
namespace L2
open PySem PySem.Spec PyProof.Rows
section
variable {K:PySem.W.Frag}{a:Addr}{xs:List V}{n:Nat}{caps:List Nat}{g:TG}{tc:TT}{te:TE}{σ:St}{H:Hp}{Qf:Addr->Hp->List V->Prop}
theorem uH {J:It}(Pv:Nat->St->List V->Hp->Prop)(len:Nat)(h0:Pv 0 (d9 n caps σ) [] H)(hn:len<=200000)(hl:∀ i τ acc H,Pv i τ acc H->acc.length<=i)
  (hgo:∀ i τ acc H,i < len->Pv i τ acc H->J.go i H) (Qs:∀ τ acc H,Pv len τ acc H->J.stop len H)
  (hs:∀ i τ acc H (C:St->List V->Hp->Prop),i < len->Pv i τ acc H->(∀ τ acc H,Pv (i + 1) τ acc H->C τ acc H)->∀ x H',J.sM i H x H'->g x τ H' fun bT H2=>tc bT H2 λb H3=>if b=true then te bT H3 λy H4=>C bT (acc++[y]) H4 else C bT acc H3)
  (hd:∀ τ acc H,Pv len τ acc H->∀ p,H p=none->Qf p H acc) :
  ∃ W:Nat->Nat->St->List V->Hp->Prop,(∃ m,W 0 m (d9 n caps σ) [] H)/\∀ i m τ acc H,W i m τ acc H ->
   (J.stop i H/\acc.length<=sizeLine/\∀ p,H p=none->Qf p H acc) \/
   (J.go i H/\acc.length < sizeLine/\∀ x H',J.sM i H x H'->g x τ H' fun bT H2=>tc bT H2 λb H3=>if b=true then te bT H3 λy H4=>∃ m',m' < m/\W (i + 1) m' bT (acc++[y]) H4 else ∃ m',m' < m/\W (i + 1) m' bT acc H3):=by
 have line:200001<=sizeLine:=by rw [sizeLine_eq];decide
 refine ⟨λi m τ acc H=>m=len - i/\i<=len/\Pv i τ acc H,⟨len,by simp,zb _,h0⟩,?_⟩;rintro i m τ acc H ⟨rfl,hi,p⟩;have q:=hl i τ acc H p;by_cases fk:i < len
 ·exact .inr ⟨hgo i τ acc H fk p,by omega,λx H' y=>hs i τ acc H (fun τ acc H=>∃ m',m' < len - i/\m'=len - (i + 1)/\i + 1<=len/\Pv (i + 1) τ acc H) fk p (fun τ acc H p'=>⟨len - (i + 1),by omega,rfl,fk,p'⟩) x H' y⟩
 ·have e:i=len:=by omega
  subst e;exact .inl ⟨Qs τ acc H p,by omega,hd τ acc H p⟩
theorem Mi (Pv:Nat->St->List V->Hp->Prop)(h0:Pv 0 (d9 n caps σ) [] H)(hn:xs.length<=200000)(hl:∀ i τ acc H,Pv i τ acc H->acc.length<=i/\aL K H a xs)
  (hs:∀ i x τ acc H (C:St->List V->Hp->Prop),xs[i]?=some x->Pv i τ acc H->(∀ τ acc H,Pv (i + 1) τ acc H->C τ acc H)->g x τ H fun bT H2=>tc bT H2 λb H3=>if b=true then te bT H3 λy H4=>C bT (acc++[y]) H4 else C bT acc H3)
  (hd:∀ τ acc H,Pv xs.length τ acc H->∀ p,H p=none->Qf p H acc) :
  ∃ W:Nat->Nat->St->List V->Hp->Prop,(∃ m,W 0 m (d9 n caps σ) [] H)/\∀ i m τ acc H,W i m τ acc H ->
   ((OH K a).stop i H/\acc.length<=sizeLine/\∀ p,H p=none->Qf p H acc) \/
   ((OH K a).go i H/\acc.length < sizeLine/\∀ x H',(OH K a).sM i H x H'->g x τ H' fun bT H2=>tc bT H2 λb H3=>if b=true then te bT H3 λy H4=>∃ m',m' < m/\W (i + 1) m' bT (acc++[y]) H4 else ∃ m',m' < m/\W (i + 1) m' bT acc H3):=
 uH (J:=OH K a) Pv xs.length h0 hn (λi τ acc H p=>(hl i τ acc H p).1) (λi τ acc H hi p=>⟨xs,xs[i],(hl i τ acc H p).2,by simp [hi]⟩) (fun τ acc H p=>⟨xs,(hl _ τ acc H p).2,zD _⟩)
  (λi τ acc H C hi p c x H' y=>by obtain ⟨e,y⟩:=y;subst e;exact hs i x τ acc _ C (y xs (hl i τ acc _ p).2) p c) hd
end
end L2
namespace Sm
open PySem L2 aZ
end Sm
namespace Sm
open PySem L2
end Sm
namespace Sm
open PySem L2 aZ
noncomputable def again (ms:List M4)(day first:Int):Nat->List M4
 | 0=>[]
 | r + 1=>again ms day first r++ms.map (M4.jL ((first + r) * day))
theorem gb (a b:List M4)(st:Fn):fwd (a++b) st=fwd b (fwd a st):=by unfold fwd bN;rw [List.flatMap_append,List.foldl_append]
end Sm
namespace L2
open PySem PySem.Spec PyProof.Rows
section
variable {X:Cx}{aa:List (Addr×Obj)}{σ:St}{H:Hp}{s:Shared}
theorem eG {xs:List V}{us:List Value}(r:Vals xs us){j:Nat}(h:j < us.toArray.size):∃ x,xs[j]?=some x/\RelV x us.toArray[j]:=by
 have hl:=r.length;simp only [zQ] at h;have a1:j < xs.length:=by omega
 obtain ⟨u,eu,ru⟩:=r.get (i:=j) (x:=xs[j]) (by simp [a1]);have e1:us.toArray[j]=u:=by rw [List.getElem_toArray];exact Option.some.inj ((zL h).symm.trans eu)
 exact ⟨xs[j],by simp [a1],by rw [e1];exact ru⟩
end
noncomputable def Eqv (K:PySem.W.Frag)(H:Hp):Nat->V->V->Bool->Prop
 | 0,x,y,b=>(x=y/\(∃ a,x=.ref a)/\b=true)\/(dB x=true/\dB y=true/\b=Nc x y)
 | n + 1,x,y,b=>(x=y/\(∃ a,x=.ref a)/\b=true)\/(dB x=true/\dB y=true/\b=Nc x y)\/∃ (a c:Addr) (xs ys:List V) (e:Nat->Bool),x=.ref a/\y=.ref c/\((aL K H a xs/\aL K H c ys)\/(cD K H a xs/\cD K H c ys))/\(a=c->b=true)/\b=(decide (xs.length=ys.length) && (List.range xs.length).all e)/\∀ (i:Nat) (x y:V),xs[i]?=some x->ys[i]?=some y->Eqv K H n x y (e i)
section
variable {X:Cx}{aa:List (Addr×Obj)}{σ:St}{H:Hp}{s:Shared}
theorem rS (I:Inv X aa σ H s):∀ (n:Nat) {A:Around}{x y:V}{b:Bool}{u v:Value},A.units + n < cLine->Eqv X.K H n x y b->RelV x u->RelV y v->SeqAt.EqAt A s u v b
 | n,A,x,y,b,u,v,hu,h,ru,rv=>by
  have T4:x=y/\(∃ a,x=.ref a)/\b=true->SeqAt.EqAt A s u v b:=by
   rintro ⟨rfl,⟨a,rfl⟩,rfl⟩;cases ru;cases rv;exact SeqAt.EqAt.same _
  have T3:dB x=true/\dB y=true/\b=Nc x y->SeqAt.EqAt A s u v b:=by
   rintro ⟨h1,h2,rfl⟩;exact QK (A:=A) (s:=s) ru rv h1 h2
  cases n with
  | zero=>exact h.elim T4 T3
  | succ n=>
   rcases h with h | h | ⟨a,c,xs,ys,e,rfl,rfl,h,hs,hb,hi⟩
   ·exact T4 h
   ·exact T3 h
   ·cases ru;cases rv;by_cases ne:a=c
    ·rw [hs ne,ne];exact SeqAt.EqAt.same _
    refine SeqAt.EqAt.of_refs ne ?_;rcases h with ⟨h1,h2⟩ | ⟨h1,h2⟩
    ·obtain ⟨aC,r1,p1,_⟩:=I.list h1;obtain ⟨fG,r2,p2,_⟩:=I.list h2;have l1:=r1.length;have l2:=r2.length;by_cases hl:xs.length=ys.length
     ·have:=SeqAt.RcAt.lists (A:=A) (e:=e) p1.isList p2.isList (by simp;omega) (by omega) λj h1 h2=>by
       obtain ⟨x,ex,rx⟩:=eG r1 h1;obtain ⟨y,ey,ry⟩:=eG r2 h2;exact rS I n (by show A.units + 1 + n < cLine;omega) (hi j x y ex ey) rx ry
      rw [hb,decide_eq_true hl,Bool.true_and,l1];simpa using this
     ·rw [hb,decide_eq_false hl,yy];exact SeqAt.RcAt.lists_lengths (A:=A) p1.isList p2.isList (by simp;omega) (by omega)
    ·obtain ⟨aC,r1,p1,_⟩:=I.tuple h1;obtain ⟨fG,r2,p2,_⟩:=I.tuple h2;have l1:=r1.length;have l2:=r2.length;have:=SeqAt.RcAt.tuples (A:=A) (e:=e) p1 p2 (by omega) λj h1 h2=>by
      obtain ⟨x,ex,rx⟩:=eG r1 h1;obtain ⟨y,ey,ry⟩:=eG r2 h2;exact rS I n (by show A.units + 1 + n < cLine;omega) (hi j x y ex ey) rx ry
     by_cases hl:xs.length=ys.length
     ·rw [hb,decide_eq_true hl,Bool.true_and,l1];have e1:fG.length=aC.length:=by omega
      simpa [e1] using this
     ·rw [hb,decide_eq_false hl,yy];have e1:¬ aC.length=fG.length:=by omega
      have e2:(aC.toArray.size == fG.toArray.size)=false:=by simp [e1]
      rw [e2,xK] at this;exact this
noncomputable def WV (K:PySem.W.Frag)(neg:Bool):R2:=λx y H Q=>∃ (n:Nat) (a c:Addr) (xs ys:List V) (e:Nat->Bool) (b:Bool),n<=20/\x=.ref a/\y=.ref c/\((aL K H a xs/\aL K H c ys)\/(cD K H a xs/\cD K H c ys))/\b=(decide (xs.length=ys.length) && (List.range xs.length).all e)/\(∀ (i:Nat) (x y:V),xs[i]?=some x->ys[i]?=some y->Eqv K H n x y (e i))/\Q (.bl (if neg then !b else b)) H
theorem vU (hu:X.A.units + 64 < cLine):gO X (compareOp .NotEq) (WV X.K true):=by
 intro aa s σ H x y v u Q I rx ry h;obtain ⟨n,a,c,xs,ys,e,b,hn,rfl,rfl,h,hb,hi,q⟩:=h;cases rx;cases ry;rw [if_pos rfl,hb] at q;rcases h with ⟨h1,h2⟩ | ⟨h1,h2⟩
 ·obtain ⟨aC,r1,p1,_⟩:=I.list h1;obtain ⟨fG,r2,p2,_⟩:=I.list h2;have l1:=r1.length;have l2:=r2.length;by_cases hl:xs.length=ys.length
  ·rw [decide_eq_true hl,Bool.true_and,l1] at q;exact SeqAt.RcNeAt.lists (e:=e) p1.isList p2.isList (by simp;omega) (by omega) (λj h1 h2=>by
    obtain ⟨x,ex,rx⟩:=eG r1 h1;obtain ⟨y,ey,ry⟩:=eG r2 h2;exact rS I n (by show X.A.units + 1 + n < cLine;omega) (hi j x y ex ey) rx ry) _ _ _ _ ⟨.bl _,H,I,rfl,by simpa using q⟩
  ·rw [decide_eq_false hl,yy] at q;exact SeqAt.RcNeAt.lists_lengths p1.isList p2.isList (by simp;omega) (by omega) _ _ _ _ ⟨.bl _,H,I,rfl,q⟩
 ·obtain ⟨aC,r1,p1,_⟩:=I.tuple h1;obtain ⟨fG,r2,p2,_⟩:=I.tuple h2;have l1:=r1.length;have l2:=r2.length;have key:((List.range (min aC.toArray.size fG.toArray.size)).all e && aC.toArray.size == fG.toArray.size)=(decide (xs.length=ys.length) && (List.range xs.length).all e):=by
   by_cases hl:xs.length=ys.length
   ·have e1:fG.length=aC.length:=by omega
    rw [decide_eq_true hl,Bool.true_and,l1];simp [e1]
   ·have e1:¬ aC.length=fG.length:=by omega
    rw [decide_eq_false hl,yy];simp [e1]
  rw [<-key] at q;exact SeqAt.RcNeAt.tuples (e:=e) p1 p2 (by omega) (λj h1 h2=>by
   obtain ⟨x,ex,rx⟩:=eG r1 h1;obtain ⟨y,ey,ry⟩:=eG r2 h2;exact rS I n (by show X.A.units + 1 + n < cLine;omega) (hi j x y ex ey) rx ry) _ _ _ _ ⟨.bl _,H,I,rfl,q⟩
end
theorem rT (x y:Int):Nc (.int x) (.int y)=decide (x=y):=rfl
section
variable {X:Cx}
theorem qk:∀ {ns:List Int}{aC:List Value},Vals (ns.map V.int) aC->∃ xs:List (Int×Tok),aC=xs.map (λp=>Value.int p.1 p.2)/\xs.map (·.1)=ns
 | [],_,r=>by cases r;exact ⟨[],rfl,rfl⟩
 | n::ns,_,r=>by
  cases r with
  | cons r1 rr=>
   obtain ⟨t,rfl⟩:=r1;obtain ⟨xs,rfl,e⟩:=qk rr;exact ⟨(n,t)::xs,rfl,by rw [zo,e]⟩
end
end L2
namespace Sm
open PySem L2 aZ
theorem ahead {n:Nat}{ms:List M4}{m:M4}(g:Good n (ms++[m])){v:Nat}{x y:Int}{i:Nat}(hi:i≠v)(h:fwd ms (aI v x) i=some y):y<=m.t/\((i=m.lo.toNat\/i=m.hi.toNat)->y < m.t):=by
 obtain ⟨a,ha,ao,at',_⟩:=jB (ws:=bN ms) h (by simp [aI,hi]);unfold bN at ha;obtain ⟨c,hc,hx⟩:=yk.mp ha;have od:=(yr.mp g.order).2.2 c hc m (by simp);obtain ⟨c1,c2,c3,_⟩:=g.each c (by simp [hc]);obtain ⟨m1,m2,m3,_⟩:=g.each m (by simp);unfold two at hx;simp only [zH,yl,or_false] at hx;have ct:c.t=y:=by rcases hx with rfl | rfl <;> exact at'
 have ci:i=c.lo.toNat\/i=c.hi.toNat:=by
  rcases hx with rfl | rfl
  ·exact .inr ao.symm
  ·exact .inl ao.symm
 refine ⟨by rcases od with h | h <;> omega,λhm=>?_⟩;rcases od with h | ⟨h1,h2,h3,h4,h5,h6⟩
 ·omega
 ·exfalso;rcases ci with e | e <;> rcases hm with e' | e' <;> omega
end Sm
namespace L2
open PySem PySem.Spec PyProof.Rows
section
variable {X:Cx}{aa:List (Addr×Obj)}{σ:St}{H:Hp}{s:Shared}
theorem fT {ix:Nat}{xn:Str}{pos' WM:Pos}{own:List Str}{caps:List Nat}{elt tg iter:Expr}{ifs:List Expr}{scope:Scope}{pos:Pos}{wi:TI}{g:TG}{tc:TT}{te:TE}(hN:X.N.Nodup)(hix:X.N[ix]?=some xn)(hxl:Loc X.env.scope xn)(hc:X.calm=true)(S:aM own caps X.N X.env.scope scope)(hi:PI X tg iter wi)
  (hg:∀ s H fp C,PG (gh X own caps scope s H fp C) tg g) (ht:∀ s H fp C,Zi (gh X own caps scope s H fp C) ifs tc) (he:∀ s H fp C,PE (gh X own caps scope s H fp C) elt te)
  (hs:∀ x,foldedSetIterable iter X.env x=pure x:=by intro _;rfl) (hsw:swapsWith (.ListComp elt [⟨tg,iter,ifs,0⟩] scope pos) (some (.Name xn pos')) WM.line X.env=pure true:=by rfl)
  (hf:X.fn xn=true\/X.env.scope.names.lookup xn=some .local:=by first | exact .inl rfl | exact .inr rfl | assumption) :
  PS X (.Assign [.Name xn pos'] (.ListComp elt [⟨tg,iter,ifs,0⟩] scope pos) WM) (oY (S9 own.length caps wi g tc te) (fL ix)):=by
 intro aa s σ H D0 I h;rw [exec_Assign_Name_used _ _ _ _ hsw,arm_evalThenUse_ListComp]
 suffices main:wpAny (model X.prog X.w) X.A (comprehension (.ListComp elt [⟨tg,iter,ifs,0⟩] scope pos) scope X.env (firstIterPos [⟨tg,iter,ifs,0⟩] pos) (newList []) false (eval iter X.env) (some (assign (.Name xn pos') X.env))) (λ_ s1=>SP X aa D0 .next s1) X.xe s from
  wpAny_bind (wpAny_standAt (wpAny_bind (wpAny_bind (wpAny_mono main (λ_ s1 h=>wpAny_pure (wpAny_pure h)) λ_ _ e=>e))))
 refine wpAny_comprehension_free (use:=some _) (cl:=iS scope.names X.env []) rfl hs (i6 λy hy e=>I.ok.has y.1 (S.fr y hy e)) S.kind S.loc
  (wpAny_mono (hi aa s σ H _ I h) (λv s1 h1=>bu h1 λYL s2 h2=>?_) λ_ _ e=>e)
 obtain ⟨it,fp,tn,J,H2,e,I2,T,sI,f2,W,⟨m0,w0⟩,turn⟩:=h2;subst e;refine wpAny_newObj_type (wpAny_newFunctionEnv S.rF (by intro y hy;simp at hy) (λgI jh fY=>?_) S.kind);dsimp only at jh fY ⊢;generalize Vw:s2.heap.push { cls:=.type "list", dict:=none,data:=.seq ([]:List Value).toArray }=G at jh fY ⊢;have hG:G.objs.size=s2.heap.objs.size + 1:=by rw [<-Vw,Heap.size_push]
 have SI:s2.heap.objs.size≠G.objs.size:=by rw [hG];exact zV (xN _)
 have SJ:s2.heap.objs.size<=G.objs.size:=by rw [hG];exact xC _
 have below:∀ b,b < s2.heap.objs.size->b≠G.objs.size:=λb hb=>by rw [hG];exact zV (yZ hb)
 have old:∀ b o,s2.heap.get? b=some o->gI.get? b=some o:=λb o e=>fY.extBut b o (below b (Heap.lt_size e)) (Heap.get?_push_of_some _ (Vw ▸ Heap.get?_push_of_some _ e));have QA:gI.get? s2.heap.objs.size=some { cls:=.type "list", dict:=none,data:=.seq ([]:List Value).toArray }:=fY.extBut _ _ SI (Heap.get?_push_of_some _ (Vw ▸ Heap.get?_push_size _ rfl));have fl:∀ b∈fp,b < s2.heap.objs.size:=λb hb=>let ⟨o,e,_⟩:=T.obj _ _ sI b hb;Heap.lt_size e;have rL:gI.Ns G.objs.size λ_=>none:=jh;have I4:=uh (tk:=s2.toks + ([]:List (Str×Value)).length) I2 S f2 fl (zD _) SJ SI old rL QA (λv z=>nomatch z);have sE:tn 0 gI:=T.keep _ _ _ sI λb _ o e=>old b o e;generalize hs4:({ s2 with heap:=gI,toks:=s2.toks + ([]:List (Str×Value)).length }:Shared)=s4 at I4 ⊢;have e4:s4.heap=gI:=by rw [<-hs4]
 rw [<-e4] at sE
 -- S6 loop
 have loop:codeAny (model X.prog X.w) X.A (.compLoop (.ListComp elt [⟨tg,iter,ifs,0⟩] scope pos) 0 (.ref it) (.ref s2.heap.objs.size) (compEnvC scope (iS scope.names X.env []) G.objs.size X.env))
   (compPost (model X.prog X.w) X.A X.xe (some (assign (.Name xn pos') X.env)) (λ_ s1=>SP X aa D0 .next s1) (.ref s2.heap.objs.size) G.objs.size) s4:=by
  let Y:=gh X own caps scope s2 H2 fp G.objs.size
  have mU:∀ {H':Hp}{aC:List Value}{n:Nat},(∀ b∈fp,H' b=none)->∀ b∈fp,pH Y [(s2.heap.objs.size,({ cls:=.type "list", data:=.seq aC.toArray n }:Obj))] H' b:=λ{H' aC n} hn b hb=>by
   refine ⟨hn b hb,below b (fl b hb),λz=>?_,.inl hb,λx c e=>(f2 b hb).2.2.2.2.1 x c (wP e),λp hp=>?_⟩
   ·rcases zH.mp (I2.gT b z) with e | e
    ·exact (f2 b hb).2.1 e
    ·exact (f2 b hb).2.2.1 e
   ·have e:p=(s2.heap.objs.size,({ cls:=.type "list", data:=.seq aC.toArray n }:Obj)):=by simpa using (show p∈[]++[_] from hp)
    subst e;exact yQ (fl b hb)
  refine qd (λn s'=>∃ i τ acc aC k H',Inv Y [(s2.heap.objs.size,({ cls:=.type "list", data:=.seq aC.toArray k }:Obj))] τ H' s'/\tn i s'.heap/\(∀ b∈fp,H' b=none)/\Vals acc aC/\W i n τ acc H') ?_ m0
   ⟨0,_,[],[],0,H2,I4,sE,λb hb=>(f2 b hb).1,.nil,w0⟩
  rintro n s5 ⟨i,τ,acc,aC,k,H5,I5,gM,VC,RT,w5⟩;rcases turn i n τ acc H5 w5 with ⟨stop,hz,q⟩ | ⟨go,hz,step⟩
  ·refine bu (T.done Y rfl rfl rfl hc i _ s5 τ H5 (λ_ _=>False) I5 (mU VC) gM stop) λr s6 ⟨hr,I6⟩=>?_;subst hr;obtain ⟨eD,nD,_,_,_⟩:=I6.pin _ (zK _ (zF.mpr rfl));obtain ⟨m6,hm6,_⟩:=I6.loc;have Y3:H5 G.objs.size=none:=I6.free;have Vk:gP X.prog X.w H5 s6.heap:=I6.aY;have ub:=I6.base;have IX:Inv X aa σ (upd H5 s2.heap.objs.size (.lst acc)) s6:=by
    refine I2.Nj (ch:=fp) (s':=s6) I6.os ⟨λb o e n' hb hx=>ub.keep b o e n' hb hx,λb o e n' hb hx=>?_,λb o e n' hx=>?_,λb o e hx=>?_,λb xs e=>?_,λb o u e=>?_,λb ps e=>?_⟩
     (Vk.S5 nD ⟨hz,aC,k,RT,eD⟩) I6.bare λb hb=>⟨(f2 b hb).2.2.2.1,(f2 b hb).2.1,(f2 b hb).2.2.2.2.1,(f2 b hb).2.2.2.2.2⟩
    ·exact ub.slot b o e n' hb hx
    ·rw [xj (zV (Heap.lt_size e))];exact ub.free b o e n' hx
    ·exact ub.there b o e hx
    ·have z:=ub.aS b xs e;rw [xj (xh z nD)];exact z
    ·have z:=ub.fc b o u e;rw [xj (xh z nD)];exact z
    ·obtain ⟨more,z⟩:=ub.eY b ps e;exact ⟨more,by rw [xj (xh z nD)];exact z⟩
   have XZ:(upd H5 s2.heap.objs.size (.lst acc)) G.objs.size=none:=by rw [xj (Ne.symm SI)];exact Y3
   have fC:pH X aa (upd H5 s2.heap.objs.size (.lst acc)) G.objs.size:=I2.Ot SJ XZ;obtain ⟨oC,esC,epC,gC,dC,rC⟩:=hm6;have IP:=IX.pinned (fp:=[G.objs.size]) (λb hb=>by cases zF.mp hb;exact fC) (λb hb=>by cases zF.mp hb;exact ⟨oC,gC,λv z=>by rw [dC] at z;cases z⟩);refine wpAny_assign_Name (gS IP hN hix hxl (v:=.ref s2.heap.objs.size) rfl (λs7 I7=>?_) hf);have pC:=(I7.pin (G.objs.size,oC) (zK _ (zK _ (wy (zF.mpr rfl) gC)))).1;refine ⟨m6,⟨oC,esC,epC,pC,dC,rC⟩,λh' Vg=>?_⟩;have I8:Inv X aa (σ.set ix (some (.ref s2.heap.objs.size))) (upd H5 s2.heap.objs.size (.lst acc)) { s7 with heap:=h' }:=I7.fu.turned (t':=s7.toks) (λb o hb e=>Vg.extBut b o hb e) fC.1 fC.2.1 fC.2.2.2.1 fC.2.2.2.2.1 fC.2.2.2.2.2;exact ⟨_,_,I8,q _ nD⟩
  ·refine bu (T.item Y rfl rfl rfl hc i _ s5 τ H5 (λ_ _=>False) I5 (mU VC) gM go) λr s6 ⟨u,hr,h6⟩=>?_;subst hr;refine bu h6 λ_ s7 ⟨x,H7,I7,r7,y7,NH,fr7⟩=>?_;have I7':=I7.pinned (mU fr7) (T.obj _ _ NH);refine bu (hg s2 H2 fp G.objs.size _ s7 τ H7 x u _ I7' r7 (step x H7 y7)) λ_ s8 ⟨OS,H8,I8,q8⟩=>?_;refine bu (ht s2 H2 fp G.objs.size _ s8 OS H8 _ I8 q8) λok s9 ⟨H9,I9,q9⟩=>?_
   -- S6 nX state behind S6 turn
   have back:∀ {s':Shared}{Wu:St}{H':Hp},Inv Y ([(s2.heap.objs.size,({ cls:=.type "list", data:=.seq aC.toArray k }:Obj))]++ku fp s7.heap) Wu H' s'->(tn (i + 1) s'.heap/\∀ b∈fp,H' b=none):=λ{s' Wu H'} Ib=>
    ⟨T.keep _ _ _ NH λb hb o e=>(Ib.pin (b,o) (zK _ (zK _ (wy hb e)))).1,λb hb=>by
     obtain ⟨o,e,d⟩:=T.obj _ _ NH b hb;exact (Ib.pin (b,o) (zK _ (zK _ (wy hb e)))).2.1⟩
   cases ok with
   | false=>
    obtain ⟨m',oU,w'⟩:=q9;obtain ⟨sb,fb⟩:=back I9;exact ⟨m',oU,i + 1,OS,acc,aC,k,H9,I9.fu,sb,fb,RT,w'⟩
   | true=>
    refine bu (he s2 H2 fp G.objs.size _ s9 OS H9 _ I9 q9) λy Pq ⟨yv,Wt,VZ,ZF,ZG⟩=>?_;obtain ⟨m',oU,w'⟩:=ZG;obtain ⟨sb,fb⟩:=back VZ;obtain ⟨eD,nD,UR,ZQ,_⟩:=VZ.pin (s2.heap.objs.size,_) (zK _ (zd _ (zF.mpr rfl)));have hl:acc.length=aC.length:=RT.length;refine call_meets F.slot_list_append ⟨_,eD,rfl⟩ F.entry_list_append (F.args_list_append_2 _ _) (PySem.list_append s2.heap.objs.size aC.toArray k y (by rw [zQ];omega)) ⟨eD,?_⟩;have q:=PySem.IsL.update eD (λa:Array Value=>a.push y);have Iu:Inv Y [] OS Wt Pq:=VZ.cY λp hp=>nomatch hp;have It:=Iu.turned (t':=Pq.toks) (it:=s2.heap.objs.size) (h':=Pq.heap.update s2.heap.objs.size (Obj.mapSeq (λa:Array Value=>a.push y))) (λb o hb e=>(Heap.get?_update_other Pq.heap _ (Ne.symm hb)).trans e) nD UR (.inr (zD _))
     (λx c e z=>by
      obtain ⟨v,ob,Ri,_⟩:=I2.cell x c (wP e);exact absurd (Heap.lt_size Ri) (by rw [z];exact z6 _)) (λp hp=>nomatch hp)
    have It':=It.cY (iW:=[(s2.heap.objs.size,({ cls:=.type "list", data:=.seq (aC++[y]).toArray (k + 1) }:Obj))]) λp hp=>by
     have e:p=_:=zF.mp hp;subst e;exact ⟨by simpa using q,nD,UR,ZQ,λv z=>nomatch z⟩
    refine ⟨m',oU,i + 1,OS,acc++[yv],aC++[y],_,Wt,It',T.keep _ _ _ sb λb hb o e=>(Heap.get?_update_other Pq.heap _ (yQ (fl b hb))).trans e,fb,RT.append (.cons ZF .nil),w'⟩
 exact codeAny_compStart_list loop (T.self _ 0 s4 _ _ sE loop)
end
section
variable {n:Nat}{caps:List Nat}{σ:St}{H:Hp}{g:TG}{tc:TT}{te:TE}{Qf:Addr->Hp->List V->Prop}{K:PySem.W.Frag}{a b:Addr}{xs ys:List V}
end
section
variable {X:Cx}
theorem OB (hc:X.calm=true):dZ X (.builtin "min") (λxs H Q=>∃ p ns,xs=[.ref p]/\aL X.K H p (List.map V.int ns)/\0 < ns.length/\∀ M,M∈ns->(∀ a∈ns,M<=a)->Q (.int M) H):=by
 intro aa s σ H xs us Q I r h;obtain ⟨p,ns,rfl,hp,n0,q⟩:=h;obtain ⟨u,rfl,ru⟩:=vals1 r;cases ru;obtain ⟨aC,r,pl,_⟩:=I.list hp;obtain ⟨ys,rfl,e⟩:=qk r;have hl:ys.length=ns.length:=by rw [<-e,zA]
 have li:s.heap.IsList p (intItems ys.toArray):=by
  have:=pl.isList;unfold intItems;rw [List.map_toArray];exact this
 refine min_intList (I.ok.hd hc) li (by simp;omega) λv h' tk hv k=>?_;obtain ⟨t,rfl⟩:=intItems_at hv;obtain ⟨b1,b2⟩:=argBest_lt (numAt ys.toArray) (ys.toArray.size - 1);have Xd:∀ j (h:j < ns.length),numAt ys.toArray j=ns[j]:=λj h=>by
  rw [numAt_eq];simp [e,h]
 have sz:ys.toArray.size=ns.length:=by simp [hl]
 rw [sz] at b1 b2 ⊢;refine ⟨.int _,H,I.kept k,⟨_,rfl⟩,q _ ?_ λa ha=>?_⟩
 ·rw [Xd _ (by omega)];exact zh _
 ·obtain ⟨j,hj,rfl⟩:=List.mem_iff_getElem.mp ha;have:=b2 j (by omega);rw [Xd j hj] at this;exact this
end
end L2
namespace Sm
open PySem L2 aZ
theorem Z4 {c:Bool}{A B:Prop}{D:Ends}{σ:St}{H:Hp}(Pre:St->Hp->Prop)(k:∀ σ H,Pre σ H->D.nx σ H)(h1:c=true->(∀ σ H,Pre σ H->D.nx σ H)->A)(h2:c=false->(∀ σ H,Pre σ H->D.nx σ H)->B):if c=true then (if true=true then A else iV D σ H) else B:=by
 cases c with
 | true=>exact h1 rfl k
 | false=>exact h2 rfl k
theorem Z6 {c:Bool}{T2 A:Prop}{D:Ends}{σ:St}{H:Hp}(Pre:St->Hp->Prop)(k:∀ σ H,Pre σ H->D.nx σ H)(h1:c=true->(∀ σ H,Pre σ H->D.nx σ H)->T2)(h2:c=false->Pre σ H):if c=true then T2 else (if false=true then A else iV D σ H):=by
 cases c with
 | true=>exact h1 rfl k
 | false=>exact k _ _ (h2 rfl)
structure Loose (w:Int) (ms:List M4):Prop where
 jY:ms.length<=60
 each:∀ r∈ms,0<=r.lo/\r.lo < r.hi/\r.hi < w/\1<=r.t/\r.t<=1000000000/\1<=r.m/\r.m<=99
 pw:ms.Pairwise λa b=>a.t=b.t->apart a b
theorem Good.loose {w:Int}{ms:List M4}(g:Good w ms):Loose w ms:=⟨g.jY,g.each,g.order.imp λh e=>by
 rcases h with h | h
 ·omega
 ·exact h.2.2⟩
noncomputable def jn (H:Hp)(l:Addr)(fs:List (Addr×M4)):Prop:=H l=some (.lst (fs.map λa=>V.ref a.1))/\iC H fs
theorem jn.same {H H':Hp}{l:Addr}{fs:List (Addr×M4)}(h:jn H l fs)(s:aB H H'):jn H' l fs:=⟨s _ _ h.1,h.2.aS (bV.same s)⟩
end Sm
namespace gG
open PySem
theorem oO {xs:Array Nat}{j:Nat}(so:xs.toList.Pairwise (· < ·)):∀ (fuel lo hi:Nat),hi - lo<=fuel->lo<=hi->hi<=xs.size->(∀ i (h:i < xs.size),i < lo->xs[i] < j)->(∀ i (h:i < xs.size),hi<=i->j<=xs[i]) ->
  SetTable.below.go xs j fuel lo hi<=xs.size/\(∀ i (h:i < xs.size),i < SetTable.below.go xs j fuel lo hi->xs[i] < j)/\∀ i (h:i < xs.size),SetTable.below.go xs j fuel lo hi<=i->j<=xs[i]
 | 0,lo,hi,hf,h1,h2,hl,hh=>by
  have:lo=hi:=by omega
  subst this;unfold SetTable.below.go;exact ⟨h2,hl,hh⟩
 | fuel + 1,lo,hi,hf,h1,h2,hl,hh=>by
  unfold SetTable.below.go;have mono:∀ a b (ha:a < xs.size) (hb:b < xs.size),a < b->xs[a] < xs[b]:=λa b ha hb ab=>by
   have:=zw.mp so a b (by simpa using ha) (by simpa using hb) ab;simpa using this
  by_cases c:lo < hi
  ·rw [if_pos c];dsimp only;have hm:(lo + hi) / 2 < xs.size:=by omega
   have e:xs.getD ((lo + hi) / 2) j=xs[(lo + hi) / 2]:=by simp [Array.getD,hm]
   rw [e];by_cases d:xs[(lo + hi) / 2] < j
   ·rw [if_pos d];refine oO so fuel _ _ (by omega) (by omega) h2 (λi h fm=>?_) hh;by_cases q:i=(lo + hi) / 2
    ·subst q;exact d
    ·exact Nat.lt_trans (mono i ((lo + hi) / 2) h hm (by omega)) d
   ·rw [if_neg d];refine oO so fuel _ _ (by omega) (by omega) (by omega) hl (λi h fm=>?_);by_cases q:i=(lo + hi) / 2
    ·subst q;omega
    ·have:=mono ((lo + hi) / 2) i hm h (by omega);omega
  ·rw [if_neg c];have:lo=hi:=by omega
   subst this;exact ⟨h2,hl,hh⟩
theorem oN {xs:Array Nat}{j:Nat}(so:xs.toList.Pairwise (· < ·)):SetTable.below xs j<=xs.size/\(∀ i (h:i < xs.size),i < SetTable.below xs j->xs[i] < j)/\∀ i (h:i < xs.size),SetTable.below xs j<=i->j<=xs[i]:=
 oO so _ _ _ (by omega) (by omega) (zD _) (λ_ _ h=>absurd h (yJ _)) (λi h hi=>absurd h (by omega))
theorem below_at {xs:Array Nat}{j i:Nat}(so:xs.toList.Pairwise (· < ·))(h:xs[i]?=some j):SetTable.below xs j=i:=by
 obtain ⟨hi,e⟩:=Array.getElem?_eq_some_iff.mp h;obtain ⟨b1,b2,b3⟩:=oN (j:=j) so;rcases Nat.lt_trichotomy (SetTable.below xs j) i with c | c | c
 ·have hb:SetTable.below xs j < xs.size:=by omega
  have:=b3 _ hb (zD _);have m:=zw.mp so (SetTable.below xs j) i (by simpa using hb) (by simpa using hi) c;simp only [Array.getElem_toList] at m;omega
 ·exact c
 ·have:=b2 i hi c;omega
theorem ko {t:SetTable}{j i:Nat}(so:t.place.toList.Pairwise (· < ·))(h:t.place[i]?=some j):t.slot j=.live i:=by unfold SetTable.slot;dsimp only;rw [below_at so h,h];simp
theorem vJ {t:SetTable}{j:Nat}(nd:t.dummies=#[])(h:j ∉ t.place.toList):t.slot j=.empty:=by
 unfold SetTable.slot;dsimp only;rw [if_neg,if_neg]
 ·rw [nd];unfold SetTable.has;simp
 ·intro c;have:t.place[SetTable.below t.place j]?=some j:=by simpa using c
  exact h (by simpa using Array.mem_of_getElem? this)
noncomputable def OQ (m:Nat)(p:SetTable.Probe):SetTable.Probe:=
 if p.more > 0 then { p with j:=p.j + 1,more:=p.more - 1 } else
 { p with j:=(SetTable.leap m p.i p.perturb).1,more:=SetTable.runEnd m (SetTable.leap m p.i p.perturb).1 - (SetTable.leap m p.i p.perturb).1,i:=(SetTable.leap m p.i p.perturb).1,perturb:=(SetTable.leap m p.i p.perturb).2 }
theorem oQ (t:SetTable)(p:SetTable.Probe):t.advance p=OQ t.mask p:=rfl
noncomputable def run (m i u:Nat):SetTable.Probe:={ j:=i,more:=SetTable.runEnd m i - i,i,perturb:=u,dummy:=none }
noncomputable def start (m:Nat)(h:Int):SetTable.Probe:=run m (SetTable.bits h % (m + 1)) (SetTable.bits h)
noncomputable def ad (m:Nat):Nat->SetTable.Probe->SetTable.Probe
 | 0,p=>p
 | n + 1,p=>ad m n (OQ m p)
theorem jW (m n:Nat)(p:SetTable.Probe):ad m (n + 1) p=OQ m (ad m n p):=by
 induction n generalizing p with
 | zero=>rfl
 | succ n ih=>exact ih (OQ m p)
theorem Q0 (m a b:Nat)(p:SetTable.Probe):ad m (a + b) p=ad m b (ad m a p):=by
 induction a generalizing p with
 | zero=>rw [xW];rfl
 | succ a ih=>rw [Nat.succ_add];exact ih (OQ m p)
theorem OF {m:Nat}{p:SetTable.Probe}:(OQ m p).dummy=p.dummy:=by unfold OQ;split <;> rfl
theorem uW {m:Nat}:∀ {n:Nat}{p:SetTable.Probe},(ad m n p).dummy=p.dummy
 | 0,_=>rfl
 | n + 1,p=>(uW (n:=n)).trans OF
noncomputable def at' (m:Nat)(h:Int)(n:Nat):Nat:=(ad m n (start m h)).j
theorem iO {m i u:Nat}:∀ k,k<=SetTable.runEnd m i - i->ad m k (run m i u)={ j:=i + k,more:=SetTable.runEnd m i - i - k,i,perturb:=u,dummy:=none }
 | 0,_=>rfl
 | k + 1,h=>by
  rw [jW,iO k (by omega)];unfold OQ;dsimp only;rw [if_pos (by omega)];rfl
theorem lM {m i u:Nat}:ad m (SetTable.runEnd m i - i + 1) (run m i u)=run m ((i * 5 + 1 + u / 32) % (m + 1)) (u / 32):=by rw [jW,iO _ (zD _)];unfold OQ;dsimp only;rw [if_neg (by omega)];rfl
theorem fE {m i:Nat}:SetTable.runEnd m i - i<=9/\i<=SetTable.runEnd m i/\(i<=m->SetTable.runEnd m i<=m):=by unfold SetTable.runEnd;split <;> omega
noncomputable def runs (m:Nat):Nat->Nat->Nat->Nat×Nat
 | 0,i,u=>(i,u)
 | r + 1,i,u=>runs m r ((i * 5 + 1 + u / 32) % (m + 1)) (u / 32)
theorem MK {m:Nat}:∀ (r i u:Nat),∃ c,c<=10 * r/\ad m c (run m i u)=run m (runs m r i u).1 (runs m r i u).2
 | 0,i,u=>⟨0,zD _,rfl⟩
 | r + 1,i,u=>by
  obtain ⟨c,hc,e⟩:=MK r ((i * 5 + 1 + u / 32) % (m + 1)) (u / 32);refine ⟨SetTable.runEnd m i - i + 1 + c,?_,?_⟩
  ·have:=(fE (m:=m) (i:=i)).1;omega
  ·rw [Q0,lM,e];rfl
theorem tu {m:Nat}:∀ (a b i u:Nat),runs m (a + b) i u=runs m b (runs m a i u).1 (runs m a i u).2
 | 0,b,i,u=>by rw [xW];rfl
 | a + 1,b,i,u=>by rw [Nat.succ_add];exact tu a b _ _
theorem jy {m:Nat}:∀ (r i u:Nat),(runs m r i u).2=u / 32 ^ r
 | 0,i,u=>by simp [runs]
 | r + 1,i,u=>by
  show (runs m r _ (u / 32)).2=_;rw [jy r,Nat.div_div_eq_div_mul,Nat.pow_succ,xX]
theorem m9 {m:Nat}:∀ (r i u:Nat),i<=m->(runs m r i u).1<=m
 | 0,i,u,h=>h
 | r + 1,i,u,h=>m9 r _ _ (yT.mp (Nat.mod_lt _ (by omega)))
noncomputable def f5 (m:Nat):Nat->Nat->Nat
 | 0,i=>i
 | s + 1,i=>f5 m s ((i * 5 + 1) % (m + 1))
theorem MJ {m:Nat}:∀ (s i:Nat),(runs m s i 0).1=f5 m s i
 | 0,i=>rfl
 | s + 1,i=>by
  show (runs m s ((i * 5 + 1 + 0 / 32) % (m + 1)) (0 / 32)).1=f5 m s ((i * 5 + 1) % (m + 1));rw [Nat.zero_div,Nat.add_zero];exact MJ s _
theorem rR {m:Nat}:∀ (a b i:Nat),f5 m (a + b) i=f5 m b (f5 m a i)
 | 0,b,i=>by rw [xW];rfl
 | a + 1,b,i=>by rw [Nat.succ_add];exact rR a b _
noncomputable def r8 (m:Nat):Nat->Nat->Nat->Nat
 | 0,_,acc=>acc
 | s + 1,i,acc=>r8 m s ((i * 5 + 1) % (m + 1)) (acc ||| (2 ^ i))
theorem lJ {m j:Nat}:∀ (s i acc:Nat),(r8 m s i acc).testBit j=true->acc.testBit j=true\/∃ a,a < s/\f5 m a i=j
 | 0,i,acc,h=>.inl h
 | s + 1,i,acc,h=>by
  rcases lJ s _ _ h with h | ⟨a,ha,e⟩
  ·rw [Nat.testBit_or,Bool.or_eq_true] at h;rcases h with h | h
   ·exact .inl h
   ·rw [Nat.testBit_two_pow] at h;exact .inr ⟨0,by omega,of_decide_eq_true h⟩
  ·exact .inr ⟨a + 1,by omega,e⟩
noncomputable def Mask (m:Nat):Prop:=m=7\/m=31\/m=127\/m=511\/m=2047\/m=8191
theorem VN {m:Nat}(hm:Mask m):f5 m (m + 1) 0=0/\∀ j,j<=m->∃ a,a<=m/\f5 m a 0=j:=by
 have key:f5 m (m + 1) 0=0/\r8 m (m + 1) 0 0=2 ^ (m + 1) - 1:=by
  rcases hm with rfl | rfl | rfl | rfl | rfl | rfl <;> constructor <;> decide +kernel
 refine ⟨key.1,λj hj=>?_⟩;have:(r8 m (m + 1) 0 0).testBit j=true:=by
  rw [key.2,Nat.testBit_two_pow_sub_one];exact decide_eq_true (by omega)
 rcases lJ _ _ _ this with h | ⟨a,ha,e⟩
 ·simp at h
 ·exact ⟨a,by omega,e⟩
theorem cover {m i j:Nat}(hm:Mask m)(hi:i<=m)(hj:j<=m):∃ s,s<=m/\f5 m s i=j:=by
 obtain ⟨z,all⟩:=VN hm;obtain ⟨a,ha,rfl⟩:=all i hi;obtain ⟨b,hb,rfl⟩:=all j hj;by_cases c:a<=b
 ·exact ⟨b - a,by omega,by rw [<-rR];congr 1;omega⟩
 ·refine ⟨b + (m + 1) - a,by omega,?_⟩;rw [<-rR,show a + (b + (m + 1) - a)=(m + 1) + b from by omega,rR,z]
theorem reach {m i u j:Nat}(hm:Mask m)(hi:i<=m)(hu:u < 2 ^ 64)(hj:j<=m):∃ r,r<=m + 13/\(runs m r i u).1=j:=by
 have p0:(runs m 13 i u).2=0:=by
  rw [jy];exact Nat.div_eq_of_lt (zR hu (by decide))
 obtain ⟨s,hs,e⟩:=cover hm (m9 13 i u hi) hj;refine ⟨13 + s,by omega,?_⟩;rw [tu,p0,MJ,e]
theorem Nk (h:Int):SetTable.bits h < 2 ^ 64:=by
 unfold SetTable.bits;have a:=yq h (show (2 ^ 64:Int)≠0 by decide);have b:=yW h (show (0:Int) < 2 ^ 64 by decide);have c:((h % 2 ^ 64).toNat:Int)=h % 2 ^ 64:=yu a;have d:((2 ^ 64:Nat):Int)=(2:Int) ^ 64:=by decide
 omega
theorem PB {m j:Nat}{h:Int}(hm:Mask m)(hj:j<=m):∃ n,n<=10 * (m + 13)/\at' m h n=j:=by obtain ⟨r,hr,e⟩:=reach (u:=SetTable.bits h) hm (yT.mp (Nat.mod_lt (SetTable.bits h) (show 0 < m + 1 by omega))) (Nk h) hj;obtain ⟨c,hc,e2⟩:=MK (m:=m) r (SetTable.bits h % (m + 1)) (SetTable.bits h);refine ⟨c,by omega,?_⟩;unfold at' start;rw [e2,e];rfl
theorem least {P:Nat->Prop}:∀ n,P n->∃ k,k<=n/\P k/\∀ i,i < k->¬ P i:=by
 intro n;induction n using Nat.strongRecOn with
 | _ n ih=>
  intro h;by_cases c:∃ i,i < n/\P i
  ·obtain ⟨i,hi,pi⟩:=c;obtain ⟨k,hk,pk,al⟩:=ih i hi pi;exact ⟨k,by omega,pk,al⟩
  ·exact ⟨n,zD _,h,λi hi pi=>c ⟨i,hi,pi⟩⟩
theorem Mf {m:Nat}{O:Nat->Prop}(h:Int)(hm:Mask m)(he:∃ j,j<=m/\¬ O j):∃ N,N<=10 * (m + 13)/\¬ O (at' m h N)/\∀ n,n < N->O (at' m h n):=by obtain ⟨j,hj,no⟩:=he;obtain ⟨n,hn,e⟩:=PB (h:=h) hm hj;obtain ⟨k,hk,pk,al⟩:=least (P:=λn=>¬ O (at' m h n)) n (by rw [e];exact no);exact ⟨k,by omega,pk,λi hi=>Classical.byContradiction λc=>al i hi c⟩
theorem uV {m:Nat}{h:Int}:∀ n,at' m h n<=m:=by
 have key:∀ n,(ad m n (start m h)).j + (ad m n (start m h)).more<=m:=by
  have step:∀ p:SetTable.Probe,p.j + p.more<=m->(OQ m p).j + (OQ m p).more<=m:=λp hp=>by
   unfold OQ;split
   ·dsimp only;omega
   ·dsimp only;have l:(SetTable.leap m p.i p.perturb).1<=m:=yT.mp (Nat.mod_lt _ (by omega));have:=fE (m:=m) (i:=(SetTable.leap m p.i p.perturb).1);have:=this.2.2 l;omega
  intro n;induction n with
  | zero=>
   show SetTable.bits h % (m + 1) + (SetTable.runEnd m (SetTable.bits h % (m + 1)) - SetTable.bits h % (m + 1))<=m;have l:SetTable.bits h % (m + 1)<=m:=yT.mp (Nat.mod_lt _ (by omega));have:=fE (m:=m) (i:=SetTable.bits h % (m + 1));have:=this.2.2 l;omega
  | succ n ih=>rw [jW];exact step _ ih
 intro n;have:=key n;unfold at';omega
end gG
namespace gG
open PySem
structure Tab (t:SetTable) (es:Array (Int×Value)):Prop where
 mask:Mask t.mask
 nd:t.dummies=#[]
 so:t.place.toList.Pairwise (· < ·)
 sz:t.place.size=es.size
 small:∀ j∈t.place.toList,j<=t.mask
 qe:es.size * 5 < t.mask * 3
 way:∀ i (h:i < es.size),∃ n,t.place[i]?=some (at' t.mask es[i].1 n)/\∀ n',n' < n->at' t.mask es[i].1 n'∈t.place.toList
theorem Tab.room {t:SetTable}{es:Array (Int×Value)}(T:Tab t es):es.size<=t.mask:=by have:=T.qe;omega
theorem Tab.fits {t:SetTable}{es:Array (Int×Value)}(T:Tab t es):t.fits es.size=true:=by unfold SetTable.fits SetTable.fill;have:=T.room;rw [T.sz,T.nd];simp;exact this
theorem Tab.odd {t:SetTable}{es:Array (Int×Value)}(T:Tab t es):t.gaveWay=false:=by unfold SetTable.gaveWay;rcases T.mask with h | h | h | h | h | h <;> rw [h] <;> rfl
theorem sj:∀ (n:Nat) (l:List Nat),(∀ j,j < n->j∈l)->n<=l.length
 | 0,_,_=>zb _
 | n + 1,l,h=>by
  have:=sj n (l.erase n) λj hj=>(List.mem_erase_of_ne (by omega)).mpr (h j (by omega));rw [List.length_erase_of_mem (h n (by omega))] at this;have:=List.length_pos_of_mem (h n (by omega));omega
theorem Qj {l:List Nat}{m:Nat}(h:l.length<=m):∃ j,j<=m/\j ∉ l:=by refine Classical.byContradiction λc=>?_;have:=sj (m + 1) l λj hj=>Classical.byContradiction λz=>c ⟨j,by omega,z⟩;omega
theorem Tab.left {t:SetTable}{es:Array (Int×Value)}(T:Tab t es):∃ j,j<=t.mask/\¬ j∈t.place.toList:=by have:=Qj (l:=t.place.toList) (m:=t.mask) (by rw [Array.length_toList,T.sz];exact T.room);exact this
theorem Tab.first {t:SetTable}{es:Array (Int×Value)}(T:Tab t es)(h:Int):∃ N,N<=10 * (t.mask + 13)/\¬ at' t.mask h N∈t.place.toList/\∀ n,n < N->at' t.mask h n∈t.place.toList:=Mf h T.mask T.left
theorem QZ {t:SetTable}{j:Nat}(h:j∈t.place.toList):∃ i:Nat,t.place[i]?=some j:=by obtain ⟨i,hi,e⟩:=yw h;exact ⟨i,by rw [<-Array.getElem?_toList,zL hi,e]⟩
theorem tK {t:SetTable}{es:Array (Int×Value)}(T:Tab t es){hashAt:Nat->Int}{h:Int}{N:Nat}(hN:¬ at' t.mask h N∈t.place.toList)(fJ:∀ n,n < N->at' t.mask h n∈t.place.toList) :
  ∀ (d k fuel:Nat),N - k=d->k<=N->d < fuel ->
   (∃ n i,k<=n/\n < N/\t.place[i]?=some (at' t.mask h n)/\hashAt i=h/\(∀ n',k<=n'->n' < n->∀ i',t.place[i']?=some (at' t.mask h n')->hashAt i'≠h)/\SetTable.probe.go t hashAt h fuel (ad t.mask k (start t.mask h))=some (.candidate (at' t.mask h n) i (ad t.mask (n + 1) (start t.mask h)))) \/
   ((∀ n',k<=n'->n' < N->∀ i',t.place[i']?=some (at' t.mask h n')->hashAt i'≠h)/\SetTable.probe.go t hashAt h fuel (ad t.mask k (start t.mask h))=some (.empty (at' t.mask h N) none))
 | d,k,0,e,hk,hf=>absurd hf (yJ _)
 | 0,k,fuel + 1,e,hk,hf=>by
  have:k=N:=by omega
  subst this;refine .inr ⟨λn' h1 h2=>absurd h1 (by omega),?_⟩;unfold SetTable.probe.go;rw [show (ad t.mask k (start t.mask h)).j=at' t.mask h k from rfl,vJ T.nd hN];dsimp only;rw [uW];rfl
 | d + 1,k,fuel + 1,e,hk,hf=>by
  obtain ⟨i,hi⟩:=QZ (fJ k (by omega));by_cases c:hashAt i=h
  ·refine .inl ⟨k,i,zD _,by omega,hi,c,λn' h1 h2=>absurd h1 (by omega),?_⟩;unfold SetTable.probe.go;rw [show (ad t.mask k (start t.mask h)).j=at' t.mask h k from rfl,ko T.so hi];dsimp only;rw [if_pos (by rw [c];simp),oQ,<- jW]
  ·have step:SetTable.probe.go t hashAt h (fuel + 1) (ad t.mask k (start t.mask h))=SetTable.probe.go t hashAt h fuel (ad t.mask (k + 1) (start t.mask h)):=by
    conv=>lhs;unfold SetTable.probe.go
    rw [show (ad t.mask k (start t.mask h)).j=at' t.mask h k from rfl,ko T.so hi];dsimp only;rw [if_neg (by simpa using c),oQ,<- jW]
   have here:∀ i',t.place[i']?=some (at' t.mask h k)->hashAt i'≠h:=λi' fm=>by
    have:=(below_at T.so fm).symm.trans (below_at T.so hi);rw [this];exact c
   rw [step];rcases tK T hN fJ d (k + 1) fuel (by omega) (by omega) (by omega) with ⟨n,i2,a1,a2,a3,a4,a5,a6⟩ | ⟨a1,a2⟩
   ·refine .inl ⟨n,i2,by omega,a2,a3,a4,λn' h1 h2 i' fm=>?_,a6⟩;by_cases q:n'=k
    ·subst q;exact here i' fm
    ·exact a5 n' (by omega) h2 i' fm
   ·refine .inr ⟨λn' h1 h2 i' fm=>?_,a2⟩;by_cases q:n'=k
    ·subst q;exact here i' fm
    ·exact a1 n' (by omega) h2 i' fm
end gG
namespace gG
open PySem
section
variable {prog:Program}{w:World}{K:Type} [DecidableEq K] {knd:HeapKind prog w K}{A:Around}{E:Value->Shared->Prop}{s:Shared}{a:Addr}
noncomputable def Yr (knd:HeapKind prog w K)(h:Heap)(es:Array (Int×Value))(ks:Nat->K):Prop:=∀ i (hi:i < es.size),∃ b,es[i]=(knd.hash (ks i),.ref b)/\knd.is h (ks i) b
noncomputable def Calm (knd:HeapKind prog w K)(A:Around)(s:Shared):Prop:=∀ (k:K) (b:Addr),knd.is s.heap k b->∀ (E:Value->Shared->Prop) (Q:Bool->Shared->Prop),Q false s->wpAny (model prog w) A (ofAClassStatement 8 (.ref b)) Q E s
theorem P5 {k:K}{c:Addr}(hk:knd.is s.heap k c)(cl:Calm knd A s):∀ (ys:List Value),(∀ y∈ys,∃ k b,y=.ref b/\knd.is s.heap k b)->∀ {Q:Bool->Shared->Prop},Q false s->wpAny (model prog w) A (searchCouldBeSeen (.ref c) ys) Q E s:=by
 intro ys hy Q q;unfold searchCouldBeSeen;refine wpAny_bind ?_;refine wpAny_forIn_list _ (λrest r s'=>r.1=none/\s'=s/\∀ y∈rest,∃ k b,y=.ref b/\knd.is s.heap k b) _ ?_ ?_ _ _ ⟨rfl,rfl,hy⟩
 ·rintro y rest r s' ⟨hr,rfl,fJ⟩;obtain ⟨k2,b,rfl,hb⟩:=fJ _ z8;have next:∀ u∈rest,∃ k b,u=Value.ref b/\knd.is s'.heap k b:=λu hu=>fJ u (zc _ hu);dsimp only;split
  ·exact wpAny_pure ⟨rfl,rfl,next⟩
  ·refine wpAny_bind (knd.quiet hk ?_);simp only [Bool.not_true,za,if_false];refine wpAny_bind (knd.quiet hb ?_);simp only [Bool.not_true,za,if_false];refine wpAny_bind (cl _ _ hk _ _ ?_);simp only [za,if_false];refine wpAny_bind (cl _ _ hb _ _ ?_);simp only [za,if_false];exact wpAny_pure ⟨rfl,rfl,next⟩
 ·rintro ⟨r1,r2⟩ s' ⟨hr,rfl,_⟩;simp only at hr;subst hr;exact wpAny_pure q
theorem search {o:Obj}{es:Array (Int×Value)}{ep:Nat}{t:SetTable}{ks:Nat->K}{kx:K}{c:Addr}{adding:Bool}{Q:SetFound->Shared->Prop}(hr:knd.room A)(ho:s.heap.get? a=some o)(hd:o.data=.set es ep t)(T:Tab t es)(ke:Yr knd s.heap es ks)(hx:knd.is s.heap kx c)(cl:Calm knd A s)
  (qt:∀ r:Option Nat,(r=none->adding=true)->(∃ i,i < es.size/\ks i=kx)->Q (.there r) s) {N:Nat} (hN:¬ at' t.mask (knd.hash kx) N∈t.place.toList) (fJ:∀ n,n < N->at' t.mask (knd.hash kx) n∈t.place.toList) (hNb:N<=10 * (t.mask + 13))
  (qf:(∀ i,i < es.size->ks i≠kx)->Q (.free (at' t.mask (knd.hash kx) N) false) s) :
  ∀ (fuel k:Nat) (st:Option SetTable.Probe),N - k < fuel->k<=N->st.getD (t.probeStart (knd.hash kx))=ad t.mask k (start t.mask (knd.hash kx))->(∀ n',n' < k->∀ i',t.place[i']?=some (at' t.mask (knd.hash kx) n')->ks i'≠kx) ->
   wpAny (model prog w) A (setSearchFrom a (.ref c) (knd.hash kx) adding fuel st) Q E s
 | 0,k,st,hf,_,_,_=>absurd hf (yJ _)
 | fuel + 1,k,st,hf,hk,M6,prev=>by
  unfold setSearchFrom;refine wpAny_bind (wpAny_setState_of ho hd T.fits ?_);dsimp only;rw [T.odd,M6];simp only [za,if_false];unfold SetTable.probe;rcases tK T hN fJ (hashAt:=λi=>((es[i]?).map (·.1)).getD 0) _ k (10 * SetTable.turns t.mask) rfl hk (by unfold SetTable.turns;omega) with ⟨n,i,a1,a2,a3,a4,a5,a6⟩ | ⟨a1,a2⟩
  ·generalize hp:SetTable.probe.go t _ (knd.hash kx) (10 * SetTable.turns t.mask) (ad t.mask k (start t.mask (knd.hash kx)))=pr;have e:=hp.symm.trans a6;subst e;have hi:i < es.size:=by
    have:=(Array.getElem?_eq_some_iff.mp a3).1;rw [T.sz] at this;exact this
   obtain ⟨b,eb,hb⟩:=ke i hi;have eg:es[i]?=some (knd.hash (ks i),.ref b):=by rw [<-eb];exact Array.getElem?_eq_getElem hi
   dsimp only;rw [eg];dsimp only;have sl:=ko T.so a3;have mem:t.sameMemory t.moves t.mask=some true:=by simp [SetTable.sameMemory]
   have again:=search (adding:=adding) hr ho hd T ke hx cl qt hN fJ hNb qf fuel (n + 1) (some (ad t.mask (n + 1) (start t.mask (knd.hash kx)))) (by omega) (by omega) rfl;have more:ks i≠kx->∀ n',n' < n + 1->∀ i',t.place[i']?=some (at' t.mask (knd.hash kx) n')->ks i'≠kx:=λne n' hn i' fm=>by
    by_cases q:n' < k
    ·exact prev n' q i' fm
    by_cases q2:n'=n
    ·subst q2;have:=(below_at T.so fm).symm.trans (below_at T.so a3);rw [this];exact ne
    ·intro z;have hl:i' < es.size:=by
      have:=(Array.getElem?_eq_some_iff.mp fm).1;rw [T.sz] at this;exact this
     obtain ⟨b',eb',_⟩:=ke i' hl;exact a5 n' (by omega) (by omega) i' fm (by simp [eb',hl,z])
   have stored:∀ y∈List.map (λx=>x.snd) (Array.filter (λx=>x.fst == knd.hash kx) es).toList,∃ k b,y=Value.ref b/\knd.is s.heap k b:=λy hy=>by
    obtain ⟨e,he,rfl⟩:=zP.mp hy;have he:e∈es:=by
     have:e∈es/\e.fst=knd.hash kx:=by simpa using he
     exact this.1
    obtain ⟨j,hj,rfl⟩:=Array.getElem_of_mem he;obtain ⟨b',eb',kM⟩:=ke j hj;exact ⟨_,b',by rw [eb'],kM⟩
   split
   ·refine wpAny_bind (P5 hx cl _ stored ?_);simp only [za,if_false];refine wpAny_bind (wpAny_holding (knd.eqBool hr hb hx ?_));refine wpAny_bind (wpAny_setState_of ho hd T.fits ?_);dsimp only;rw [mem];dsimp only;rw [if_pos (show (true=true) from rfl),sl];dsimp only;rw [eg];dsimp only;by_cases q:ks i=kx
    ·rw [decide_eq_true q];cases adding with
     | true=>exact wpAny_pure (qt _ (λ_=>rfl) ⟨i,hi,q⟩)
     | false=>
      simp only [yy,za,if_false];refine wpAny_bind (wpAny_isSame_ref_self ?_);exact wpAny_pure (qt _ (λz=>by cases z) ⟨i,hi,q⟩)
    ·rw [decide_eq_false q];simp only [xK,za,if_false];refine wpAny_bind (wpAny_isSame_ref_self ?_);exact again (more q)
   ·refine wpAny_bind (wpAny_holding (knd.eqBool hr hb hx ?_));refine wpAny_bind (wpAny_setState_of ho hd T.fits ?_);dsimp only;rw [mem];dsimp only;rw [if_pos (show (true=true) from rfl),sl];dsimp only;rw [eg];dsimp only;by_cases q:ks i=kx
    ·rw [decide_eq_true q];cases adding with
     | true=>exact wpAny_pure (qt _ (λ_=>rfl) ⟨i,hi,q⟩)
     | false=>
      simp only [yy,za,if_false];refine wpAny_bind (wpAny_isSame_ref_self ?_);exact wpAny_pure (qt _ (λz=>by cases z) ⟨i,hi,q⟩)
    ·rw [decide_eq_false q];simp only [xK,za,if_false];refine wpAny_bind (wpAny_isSame_ref_self ?_);exact again (more q)
  ·generalize hp:SetTable.probe.go t _ (knd.hash kx) (10 * SetTable.turns t.mask) (ad t.mask k (start t.mask (knd.hash kx)))=pr;have e:=hp.symm.trans a2;subst e;dsimp only;refine wpAny_pure (qf λi hi z=>?_);obtain ⟨m,hm,al⟩:=T.way i hi;obtain ⟨b,eb,_⟩:=ke i hi;rw [eb] at hm al;dsimp only at hm al;rw [z] at hm al;have mN:m < N:=Classical.byContradiction λc=>by
    by_cases q:N=m
    ·subst q;exact hN (by simpa using Array.mem_of_getElem? hm)
    ·exact hN (al N (by omega))
   by_cases q:m < k
   ·exact prev m q i hm z
   ·refine a1 m (by omega) mN i hm ?_;simp [eb,hi,z]
structure OG (knd:HeapKind prog w K) (h:Heap) (a:Addr) (es:Array (Int×Value)) (ep:Nat) (t:SetTable) (ks:Nat->K):Prop where
 obj:h.get? a=some { cls:=.type "set", data:=.set es ep t }
 tab:Tab t es
 keys:Yr knd h es ks
theorem find {es:Array (Int×Value)}{ep:Nat}{t:SetTable}{ks:Nat->K}{kx:K}{c:Addr}{Q:Option Nat->Shared->Prop}(hr:knd.room A)(S:OG knd s.heap a es ep t ks)(hx:knd.is s.heap kx c)(cl:Calm knd A s)
  (qt:∀ r:Option Nat,r.isSome=true->(∃ i,i < es.size/\ks i=kx)->Q r s) (qf:(∀ i,i < es.size->ks i≠kx)->Q none s):wpAny (model prog w) A (setFind a (.ref c) (knd.hash kx)) Q E s:=by
 obtain ⟨N,n1,n2,n3⟩:=S.tab.first (knd.hash kx);unfold setFind setFindIn;refine wpAny_bind (wpAny_setState_of S.obj rfl S.tab.fits ?_);dsimp only;rw [show byScan (.ref c) es=false from rfl];simp only [za,if_false];refine wpAny_bind ?_;unfold setSearch;have lim:10 * (t.mask + 13) < 100000:=by
  rcases S.tab.mask with h | h | h | h | h | h <;> rw [h] <;> decide
 refine search hr S.obj rfl S.tab S.keys hx cl (λr h f=>?_) n2 n3 n1 (λnf=>?_) 100000 0 none (by omega) (zb _) rfl (λn' h=>absurd h (yJ _))
 ·refine wpAny_pure (qt r ?_ f);cases r with
  | none=>cases h rfl
  | some i=>rfl
 ·exact wpAny_pure (qf nf)
theorem mZ {es:Array (Int×Value)}{ep:Nat}{t:SetTable}{ks:Nat->K}(S:OG knd s.heap a es ep t ks):s.TypeIs (.ref a) "set" := ⟨_,S.obj,rfl⟩
theorem inSet {es:Array (Int×Value)}{ep:Nat}{t:SetTable}{ks:Nat->K}{kx:K}{c:Addr}{Q:Value->Shared->Prop}(hr:knd.room A.in1)(S:OG knd s.heap a es ep t ks)(hx:knd.is s.heap kx c)(cl:∀ B (s':Shared),s'.heap=s.heap->Calm knd B s')
  (qt:(∃ i,i < es.size/\ks i=kx)->Q (.bool true) { s with toks:=s.toks + knd.draws kx }) (qf:(∀ i,i < es.size->ks i≠kx)->Q (.bool false) { s with toks:=s.toks + knd.draws kx }):wpAny (model prog w) A (compareOp .In (.ref c) (.ref a)) Q E s:=by
 have hT:=mZ S;show wpAny _ _ (do return .bool (<- contains (.ref a) (.ref c))) Q E s;refine wpAny_bind ?_;unfold contains;try with_reducible refine wpAny_holding ?_
 refine wpAny_bind (wpAny_specialOf hT F.slot_set_contains.lookup ?_);show wpAny _ _ (if (some (Value.builtin "set.__contains__") == some Value.none)=true then _ else _) _ E s;rw [if_neg (by rw [beq_builtin_none];exact zO)];refine wpAny_bind (wpAny_callSpecialUnlessNone?_slot (name:=Str.ofString "__contains__") hT F.slot_set_contains
  (wpAny_call_entry F.slot_set_contains hT entry_set_contains ?_ (F.args_set_contains_2 _ _)))
 unfold Builtin.«frozenset.__contains__» Builtin.Frozenset.oneOther;simp only [List.isEmpty_nil,bind_assoc];unfold Builtin.Frozenset.addrOf Builtin.Frozenset.withSetAsKey setContains;refine wpAny_bind (wpAny_pure ?_);try dsimp only
 refine wpAny_bind (wpAny_pure ?_);try dsimp only
 refine wpAny_bind (wpAny_tryCatch ?_);refine wpAny_holding ?_;refine wpAny_bind (knd.pyHash hr hx ?_);refine wpAny_bind (find (s:={ s with toks:=s.toks + knd.draws kx }) hr ⟨S.obj,S.tab,S.keys⟩ hx (cl _ _ rfl) (λr hs f=>?_) (λnf=>?_))
 ·refine wpAny_pure ?_;show wpAny _ _ (ret (Value.bool r.isSome)) _ _ _;rw [hs];exact wpAny_pure ⟨_,rfl,wpAny_truthy_bool (wpAny_pure (qt f))⟩
 ·refine wpAny_pure ?_;show wpAny _ _ (ret (Value.bool false)) _ _ _;exact wpAny_pure ⟨_,rfl,wpAny_truthy_bool (wpAny_pure (qf nf))⟩
end
end gG
namespace gG
open PySem
theorem nZ {α:Type}{l:List α}{p:Nat}{x:α}(hp:p<=l.length)(i:Nat):(l.take p++x::l.drop p)[i]?=if i < p then l[i]? else if i=p then some x else l[i - 1]?:=by
 have lt:(l.take p).length=p:=by rw [zZ];omega
 by_cases c:i < p
 ·rw [if_pos c,zU (by omega),List.getElem?_take_of_lt c]
 ·rw [if_neg c,zY (by omega),lt];by_cases d:i=p
  ·rw [if_pos d,d,xD];rfl
  ·rw [if_neg d,show i - p=(i - p - 1) + 1 from by omega,yC,List.getElem?_drop];congr 1;omega
theorem Tab.put {t:SetTable}{es:Array (Int×Value)}(T:Tab t es){h:Int}{x:Value}{N:Nat}(hN:¬ at' t.mask h N∈t.place.toList)(fJ:∀ n,n < N->at' t.mask h n∈t.place.toList)(pl:Bool) :
  (((es.size + 1) * 5 < t.mask * 3)->Tab { (t.put (at' t.mask h N)).1 with plain:=pl } (SetTable.insertAt es (t.put (at' t.mask h N)).2 (h,x)))/\(t.put (at' t.mask h N)).1.dummies=#[]/\(t.put (at' t.mask h N)).1.mask=t.mask/\(t.put (at' t.mask h N)).1.place.size=es.size + 1:=by
 have e1:(t.put (at' t.mask h N)).1={ t with place:=SetTable.insertAt t.place (SetTable.below t.place (at' t.mask h N)) (at' t.mask h N) }:=by
  unfold SetTable.put;dsimp only;rw [T.nd];unfold SetTable.has;simp
 have e2:(t.put (at' t.mask h N)).2=SetTable.below t.place (at' t.mask h N):=rfl;rw [e1,e2];generalize hj:at' t.mask h N=j at *;obtain ⟨b1,b2,b3⟩:=oN (j:=j) T.so;generalize hp:SetTable.below t.place j=p at *;have lp:(SetTable.insertAt t.place p j).toList=t.place.toList.take p++j::t.place.toList.drop p:=SetTable.toList_insertAt ..;have le:(SetTable.insertAt es p (h,x)).toList=es.toList.take p++(h,x)::es.toList.drop p:=SetTable.toList_insertAt ..;have p1:p<=t.place.toList.length:=by rw [Array.length_toList];exact b1
 have p2:p<=es.toList.length:=by rw [Array.length_toList,<- T.sz];exact b1
 have s1:(SetTable.insertAt t.place p j).size=es.size + 1:=by
  rw [<-Array.length_toList,lp,zE,zX,zZ,xO,Array.length_toList,<- T.sz];omega
 have s2:(SetTable.insertAt es p (h,x)).size=es.size + 1:=by
  rw [<-Array.length_toList,le,zE,zX,zZ,xO,Array.length_toList];have:=T.sz;omega
 have mem:∀ j',j'∈(SetTable.insertAt t.place p j).toList↔j'=j\/j'∈t.place.toList:=λj'=>by
  rw [lp,zT,zH];constructor
  ·rintro (h | h | h)
   ·exact .inr (List.mem_of_mem_take h)
   ·exact .inl h
   ·exact .inr (List.mem_of_mem_drop h)
  ·rintro (h | h)
   ·exact .inr (.inl h)
   ·rw [<-List.take_append_drop p t.place.toList,zT] at h;exact h.imp id .inr
 refine ⟨λqe=>⟨T.mask,T.nd,?_,by rw [s2];exact s1,λj' Qw=>?_,by rw [s2];exact qe,λi hi=>?_⟩,T.nd,rfl,s1⟩
 ·show (SetTable.insertAt t.place p j).toList.Pairwise (· < ·);rw [lp,yr,List.pairwise_cons];refine ⟨T.so.sublist (List.take_sublist _ _),⟨λy hy=>?_,T.so.sublist (List.drop_sublist _ _)⟩,λy hy z hz=>?_⟩
  ·obtain ⟨i,hi,e⟩:=yw hy;rw [List.getElem_drop] at e;have hl:p + i < t.place.size:=by rw [xO,Array.length_toList] at hi;omega
   have q:=b3 (p + i) hl (by omega);rw [Array.getElem_toList] at e;rw [e] at q;have ne:y≠j:=λz=>hN (by rw [<-z];exact List.mem_of_mem_drop hy);omega
  ·obtain ⟨i,hi,e⟩:=yw hy;rw [List.getElem_take] at e;rw [zZ,Array.length_toList] at hi;have hl:i < t.place.size:=by omega
   have q:=b2 i hl (by omega);rw [Array.getElem_toList] at e;rw [e] at q;rcases zH.mp hz with z1 | z1
   ·rw [z1];exact q
   ·obtain ⟨k,hk,ek⟩:=yw z1;rw [List.getElem_drop] at ek;have XM:p + k < t.place.size:=by rw [xO,Array.length_toList] at hk;omega
    have q2:=b3 (p + k) XM (by omega);rw [Array.getElem_toList] at ek;rw [ek] at q2;omega
 ·have Qw:j'∈(SetTable.insertAt t.place p j).toList:=Qw;rcases (mem j').mp Qw with z | z
  ·rw [z,<- hj];exact uV N
  ·exact T.small j' z
 ·show ∃ n,(SetTable.insertAt t.place p j)[i]?=some (at' t.mask (SetTable.insertAt es p (h,x))[i].1 n)/\∀ n',n' < n->at' t.mask (SetTable.insertAt es p (h,x))[i].1 n'∈(SetTable.insertAt t.place p j).toList;have ge:(SetTable.insertAt es p (h,x))[i]?=some (SetTable.insertAt es p (h,x))[i]:=Array.getElem?_eq_getElem hi;generalize (SetTable.insertAt es p (h,x))[i]=e at ge ⊢;rw [<-Array.getElem?_toList,le,nZ p2] at ge;rw [<-Array.getElem?_toList,lp,nZ p1,<- lp];have old:∀ k,es.toList[k]?=some e->∃ n,t.place.toList[k]?=some (at' t.mask e.1 n)/\∀ n',n' < n->at' t.mask e.1 n'∈(SetTable.insertAt t.place p j).toList:=λk hk=>by
   rw [Array.getElem?_toList] at hk;obtain ⟨TH,ek⟩:=Array.getElem?_eq_some_iff.mp hk;obtain ⟨n,a1,a2⟩:=T.way k TH;rw [ek] at a1 a2;exact ⟨n,by rw [Array.getElem?_toList];exact a1,λn' hn=>(mem _).mpr (.inr (a2 n' hn))⟩
  by_cases c:i < p
  ·rw [if_pos c] at ge ⊢;exact old i ge
  ·rw [if_neg c] at ge ⊢;by_cases d:i=p
   ·rw [if_pos d] at ge ⊢;cases ge;exact ⟨N,by rw [hj],λn' hn=>(mem _).mpr (.inr (fJ n' hn))⟩
   ·rw [if_neg d] at ge ⊢;exact old (i - 1) ge
noncomputable def MS (ow:Array (Option Nat))(j:Nat):Prop:=(ow.getD j (some 0)).isNone=false
theorem qp {m:Nat}{ow:Array (Option Nat)}:∀ (fuel i u:Nat),(∃ r,r < fuel/\¬ MS ow (runs m r i u).1) ->
  ∃ n,SetTable.layClean.free m ow fuel i u=some (ad m n (run m i u)).j/\¬ MS ow (ad m n (run m i u)).j/\∀ n',n' < n->MS ow (ad m n' (run m i u)).j
 | 0,i,u,⟨r,h,_⟩=>absurd h (yJ _)
 | fuel + 1,i,u,⟨r,h,no⟩=>by
  unfold SetTable.layClean.free;cases e:(List.range (SetTable.runEnd m i + 1 - i)).find? λk=>(ow.getD (i + k) (some 0)).isNone with
  | some k=>
   dsimp only;obtain ⟨hk,fk,before⟩:=List.find?_range_eq_some.mp e;have fk:k < SetTable.runEnd m i + 1 - i:=zm.mp fk;have inr:∀ k',k'<=k->(ad m k' (run m i u)).j=i + k':=λk' TH=>by rw [iO k' (by omega)]
   refine ⟨k,by rw [inr k (zD _)],?_,λn' hn=>?_⟩
   ·rw [inr k (zD _)];unfold MS;rw [hk];simp
   ·rw [inr n' (by omega)];unfold MS;have:=before n' hn;simpa using this
  | none=>
   dsimp only;have all:∀ k,k < SetTable.runEnd m i + 1 - i->MS ow (i + k):=λk hk=>by
    have:=List.find?_eq_none.mp e k (zm.mpr hk);unfold MS;cases q:(ow.getD (i + k) (some 0)).isNone with
    | false=>rfl
    | true=>exact absurd q this
   have r0:r≠0:=λz=>by
    subst z;refine no ?_;exact all 0 (by have:=(fE (m:=m) (i:=i)).2.1;omega)
   obtain ⟨r',rfl⟩:=Nat.exists_eq_succ_of_ne_zero r0;obtain ⟨n,a1,a2,a3⟩:=qp fuel ((i * 5 + 1 + u / 32) % (m + 1)) (u / 32) ⟨r',by omega,no⟩;have next:∀ n',ad m (SetTable.runEnd m i - i + 1 + n') (run m i u)=ad m n' (run m ((i * 5 + 1 + u / 32) % (m + 1)) (u / 32)):=λn'=>by rw [Q0,lM]
   refine ⟨SetTable.runEnd m i - i + 1 + n,?_,?_,λn' hn=>?_⟩
   ·rw [next];exact a1
   ·rw [next];exact a2
   ·by_cases c:n' < SetTable.runEnd m i - i + 1
    ·rw [iO n' (by omega)];exact all n' (by have:=(fE (m:=m) (i:=i)).2.1;omega)
    ·rw [show n'=SetTable.runEnd m i - i + 1 + (n' - (SetTable.runEnd m i - i + 1)) from by omega,next];exact a3 _ (by omega)
structure Lay (m:Nat) (hs:List Int) (ow:Array (Option Nat)):Prop where
 sz:ow.size=m + 1
 each:∀ (k:Nat) (h:Int),hs[k]?=some h->∃ n,ow[at' m h n]?=some (some k)/\∀ n',n' < n->MS ow (at' m h n')
 low:∀ (j k:Nat),ow[j]?=some (some k)->k < hs.length
 one:∀ (j j' k:Nat),ow[j]?=some (some k)->ow[j']?=some (some k)->j=j'
theorem jI {ow:Array (Option Nat)}{j:Nat}(h:j < ow.size):MS ow j↔∃ k,ow[j]?=some (some k):=by unfold MS;rw [show ow.getD j (some 0)=ow[j] from by simp [Array.getD,h],Array.getElem?_eq_getElem h];cases ow[j] <;> simp
theorem Lay.left {m:Nat}{hs:List Int}{ow:Array (Option Nat)}(L:Lay m hs ow)(jY:hs.length<=m):∃ j,j<=m/\¬ MS ow j:=by
 refine Classical.byContradiction λc=>?_;have all:∀ j,j < m + 1->∃ k,ow[j]?=some (some k):=λj hj=>(jI (by rw [L.sz];exact hj)).mp (Classical.byContradiction λz=>c ⟨j,by omega,z⟩);have pick:∀ k,∃ j,k < hs.length->ow[j]?=some (some k):=λk=>by
  by_cases hk:k < hs.length
  ·obtain ⟨n,a,_⟩:=L.each k hs[k] (zL hk);exact ⟨_,λ_=>a⟩
  ·exact ⟨0,λz=>absurd z hk⟩
 have:=sj (m + 1) ((List.range hs.length).map λk=>(pick k).choose) λj hj=>by
  obtain ⟨k,hk⟩:=all j hj;have kl:=L.low j k hk;exact zP.mpr ⟨k,zm.mpr kl,L.one _ _ _ ((pick k).choose_spec kl) hk⟩
 rw [zA,yE] at this;omega
theorem Lay.step {m:Nat}{hs:List Int}{ow:Array (Option Nat)}(hm:Mask m)(L:Lay m hs ow)(jY:hs.length<=m)(h:Int) :
  ∃ j,SetTable.layClean.free m ow (SetTable.turns m) (SetTable.bits h % (m + 1)) (SetTable.bits h)=some j/\Lay m (hs++[h]) (ow.setIfInBounds j (some hs.length)):=by
 obtain ⟨j0,hj0,no⟩:=L.left jY;obtain ⟨r,hr,e⟩:=reach (u:=SetTable.bits h) hm (yT.mp (Nat.mod_lt (SetTable.bits h) (show 0 < m + 1 by omega))) (Nk h) hj0;obtain ⟨n,a1,a2,a3⟩:=qp (m:=m) (ow:=ow) (SetTable.turns m) (SetTable.bits h % (m + 1)) (SetTable.bits h) ⟨r,by unfold SetTable.turns;omega,by rw [e];exact no⟩;have ej:(ad m n (run m (SetTable.bits h % (m + 1)) (SetTable.bits h))).j=at' m h n:=rfl;rw [ej] at a1 a2;have a3:∀ n',n' < n->MS ow (at' m h n'):=a3;have jl:at' m h n < ow.size:=by rw [L.sz];exact yT.mpr (uV n)
 have get:∀ j,(ow.setIfInBounds (at' m h n) (some hs.length))[j]?=if at' m h n=j then some (some hs.length) else ow[j]?:=λj=>by
  rw [Array.getElem?_setIfInBounds];by_cases c:at' m h n=j
  ·rw [if_pos c,if_pos c,if_pos jl]
  ·rw [if_neg c,if_neg c]
 have keep:∀ j,MS ow j->j < ow.size->MS (ow.setIfInBounds (at' m h n) (some hs.length)) j:=λj oj hj=>by
  rw [jI (by rw [Array.size_setIfInBounds];exact hj),get];by_cases c:at' m h n=j
  ·exact ⟨_,by rw [if_pos c]⟩
  ·rw [if_neg c];exact (jI hj).mp oj
 have free:∀ k,ow[at' m h n]?≠some (some k):=λk z=>a2 ((jI jl).mpr ⟨k,z⟩);refine ⟨_,a1,by rw [Array.size_setIfInBounds];exact L.sz,λk x hx=>?_,λj k hj=>?_,λj j' k h1 h2=>?_⟩
 ·by_cases c:k < hs.length
  ·rw [zU c] at hx;obtain ⟨n2,b1,b2⟩:=L.each k x hx;refine ⟨n2,?_,λn' hn=>keep _ (b2 n' hn) (by rw [L.sz];exact yT.mpr (uV n'))⟩;rw [get,if_neg λz=>free k (by rw [z];exact b1)];exact b1
  ·rw [zY (by omega)] at hx;have:k - hs.length=0:=by
    have:=(zC.mp hx).1;simp at this;omega
   rw [this] at hx;cases hx;have:k=hs.length:=by omega
   subst this;exact ⟨n,by rw [get,if_pos rfl],λn' hn=>keep _ (a3 n' hn) (by rw [L.sz];exact yT.mpr (uV n'))⟩
 ·rw [get] at hj;rw [zE,yA];split at hj
  ·cases hj;omega
  ·have:=L.low j k hj;omega
 ·rw [get] at h1 h2;split at h1 <;> split at h2
  ·rename_i x y;rw [<-x,<- y]
  ·cases h1;have:=L.low _ _ h2;omega
  ·cases h2;have:=L.low _ _ h1;omega
  ·exact L.one _ _ _ h1 h2
theorem ue {m:Nat}(hm:Mask m):∀ (l hs:List Int) (ow:Array (Option Nat)),Lay m hs ow->hs.length + l.length<=m + 1 ->
  ∃ YB,l.foldl (λ(acc:Option (Array (Option Nat)×Nat)) h=>do
   let (owner,k) <- acc
   let j <- SetTable.layClean.free m owner (SetTable.turns m) (SetTable.bits h % (m + 1)) (SetTable.bits h)
   pure (owner.setIfInBounds j (some k),k + 1)) (some (ow,hs.length))=some (YB,hs.length + l.length)/\Lay m (hs++l) YB
 | [],hs,ow,L,_=>⟨ow,rfl,by rw [zq];exact L⟩
 | h::l,hs,ow,L,jY=>by
  obtain ⟨j,e,L'⟩:=L.step hm (by rw [zX] at jY;omega) h;have aaF:(hs++[h]).length + l.length<=m + 1:=by rw [zE,yA];rw [zX] at jY;omega
  obtain ⟨YB,e2,L2⟩:=ue hm l (hs++[h]) _ L' aaF;refine ⟨YB,?_,by rw [xJ] at L2;exact L2⟩;rw [List.foldl_cons];show l.foldl _ ((SetTable.layClean.free m ow (SetTable.turns m) (SetTable.bits h % (m + 1)) (SetTable.bits h)).bind λj=>some (ow.setIfInBounds j (some hs.length),hs.length + 1))=_;rw [e];rw [zE,yA] at e2;rw [zX];rw [show hs.length + (l.length + 1)=hs.length + 1 + l.length from by omega];exact e2
theorem Ob {m:Nat}(hm:Mask m){hashes:Array Int}(jY:hashes.size<=m + 1):∃ ow,SetTable.layClean m hashes=some ow/\Lay m hashes.toList ow:=by have L0:Lay m [] (Array.replicate (m + 1) none):=⟨by simp,λk h e=>(by cases e),(λj k e=>by rw [Array.getElem?_replicate] at e;split at e <;> cases e),(λj j' k e=>by rw [Array.getElem?_replicate] at e;split at e <;> cases e)⟩;obtain ⟨ow,e,L⟩:=ue hm hashes.toList [] _ L0 (by rw [yI,Array.length_toList];omega);refine ⟨ow,?_,by simpa using L⟩;unfold SetTable.layClean;rw [<-Array.foldl_toList];have:=congrArg (Option.map (·.1)) e;exact this
theorem Sa {l l':List Nat}(h:l.Nodup)(h':l'.Nodup)(e:∀ x,x∈l↔x∈l'):l.Perm l':=by
 rw [List.perm_iff_count];intro a;rw [h.count,h'.count];by_cases c:a∈l
 ·rw [if_pos c,if_pos ((e a).mp c)]
 ·rw [if_neg c,if_neg λz=>c ((e a).mpr z)]
theorem rP {α β:Type}{f:α->Option β}{g:α->β}:∀ {l:List α},(∀ x∈l,f x=some (g x))->l.filterMap f=l.map g
 | [],_=>rfl
 | x::l,h=>by
  rw [List.filterMap_cons_some (h x z8),zo,rP λy hy=>h y (zc _ hy)]
theorem rQ {f:Nat->Option Nat}:∀ (l:List Nat),(l.filterMap λj=>(f j).map (j,·)).map (·.1)=l.filter λj=>(f j).isSome
 | []=>rfl
 | x::l=>by
  cases e:f x with
  | none=>rw [List.filterMap_cons_none (by rw [e];rfl),List.filter_cons_of_neg (by rw [e];simp),rQ l]
  | some k=>rw [List.filterMap_cons_some (b:=(x,k)) (by rw [e];rfl),List.filter_cons_of_pos (by rw [e];rfl),zo,rQ l]
theorem tE {t:SetTable}{es:Array (Int×Value)}{wanted m:Nat}(hw:SetTable.sizeAbove wanted - 1=m)(hm:Mask m)(qe:es.size * 5 < m * 3) :
  ∃ t' order,t.relaid (es.map (·.1)) wanted=some (t',order)/\(order.filterMap (es[·]?)).toList.Perm es.toList/\Tab t' (order.filterMap (es[·]?)):=by
 obtain ⟨ow,e,L⟩:=Ob (hashes:=es.map (·.1)) hm (by rw [Array.size_map];omega);have lh:(es.map (·.1)).toList.length=es.size:=by rw [Array.length_toList,Array.size_map]
 have hh:∀ (k:Nat) (x:Int×Value),es[k]?=some x->(es.map (·.1)).toList[k]?=some x.1:=λk x hx=>by rw [Array.getElem?_toList,Array.getElem?_map,hx];rfl
 let lv:=(List.range (m + 1)).filterMap λj=>(ow.getD j none).map (j,·)
 have e2:t.relaid (es.map (·.1)) wanted=some ({ mask:=m,place:=(lv.map (·.1)).toArray,dummies:=#[],finger:=t.finger,led:=t.led,moves:=t.movedTo m,plain:=t.plain },(lv.map (·.2)).toArray):=by
  unfold SetTable.relaid SetTable.laid;rw [hw,e];rfl
 have f1:lv.map (·.1)=(List.range (m + 1)).filter λj=>(ow.getD j none).isSome:=rQ _;have f2:∀ p∈lv,ow[p.1]?=some (some p.2)/\p.1<=m:=λp hp=>by
  obtain ⟨j,hj,q⟩:=yV.mp hp;have hj:j < m + 1:=zm.mp hj;have hs:j < ow.size:=by rw [L.sz];exact hj
  rw [show ow.getD j none=ow[j] from by simp [Array.getD,hs]] at q;cases eo:ow[j] with
  | none=>rw [eo] at q;cases q
  | some k=>rw [eo] at q;cases q;exact ⟨by rw [Array.getElem?_eq_getElem hs,eo],by show j<=m;omega⟩
 have f3:∀ j k,ow[j]?=some (some k)->(j,k)∈lv:=λj k h=>by
  obtain ⟨hs,eo⟩:=Array.getElem?_eq_some_iff.mp h;refine yV.mpr ⟨j,zm.mpr (by rw [L.sz] at hs;exact hs),?_⟩;rw [show ow.getD j none=ow[j] from by simp [Array.getD,hs],eo];rfl
 have so1:(lv.map (·.1)).Pairwise (· < ·):=by rw [f1];exact List.pairwise_lt_range.filter _
 have so2:lv.Pairwise λa b=>a.1 < b.1:=yO.mp so1;have nd:(lv.map (·.2)).Nodup:=by
  refine yO.mpr (so2.imp_of_mem λ{a b} ha hb h z=>?_);have:=L.one _ _ _ (f2 a ha).1 (by rw [z];exact (f2 b hb).1);omega
 have kl:∀ p∈lv,p.2 < es.size:=λp hp=>by have:=L.low _ _ (f2 p hp).1;rw [lh] at this;exact this
 have pm:(lv.map (·.2)).Perm (List.range es.size):=Sa nd List.nodup_range λk=>by
  constructor
  ·intro h;obtain ⟨p,hp,rfl⟩:=zP.mp h;exact zm.mpr (kl p hp)
  ·intro h;have hk:k < es.size:=zm.mp h;obtain ⟨n,a,_⟩:=L.each k es[k].1 (hh k _ (Array.getElem?_eq_getElem hk));exact zP.mpr ⟨_,f3 _ _ a,rfl⟩
 let g:Nat->Int×Value:=λk=>(es[k]?).getD (0,Value.none)
 have gk:∀ k,k < es.size->es[k]?=some (g k):=λk hk=>by show es[k]?=some ((es[k]?).getD _);rw [Array.getElem?_eq_getElem hk];rfl
 have e3:((lv.map (·.2)).toArray.filterMap (es[·]?)).toList=lv.map λp=>g p.2:=by
  rw [Array.toList_filterMap,List.filterMap_map];exact rP λp hp=>gk p.2 (kl p hp)
 have e4:es.toList=(List.range es.size).map g:=by
  have:=filterMap_getElem?_range es;rw [rP (g:=g) λk hk=>gk k (zm.mp hk)] at this;exact this.symm
 refine ⟨_,_,e2,?_,?_⟩
 ·rw [e3,e4,show (λp:Nat×Nat=>g p.2)=g ∘ (·.2) from rfl,<- z4];exact pm.map g
 ·have sz:((lv.map (·.2)).toArray.filterMap (es[·]?)).size=lv.length:=by rw [<-Array.length_toList,e3,zA]
  have ll:lv.length=es.size:=by have:=pm.length_eq;rw [zA,yE] at this;exact this
  refine ⟨hm,rfl,by simpa using so1,by rw [sz];simp,λj hj=>?_,by rw [sz,ll];exact qe,λi hi=>?_⟩
  ·have hj:j∈lv.map (·.1):=by simpa using hj
   obtain ⟨p,hp,rfl⟩:=zP.mp hj;exact (f2 p hp).2
  ·have ge:((lv.map (·.2)).toArray.filterMap (es[·]?))[i]?=some ((lv.map (·.2)).toArray.filterMap (es[·]?))[i]:=Array.getElem?_eq_getElem hi;generalize ((lv.map (·.2)).toArray.filterMap (es[·]?))[i]=x at ge ⊢;rw [<-Array.getElem?_toList,e3,zS] at ge;cases ep:lv[i]? with
   | none=>rw [ep] at ge;cases ge
   | some p=>
    rw [ep] at ge;have ge:g p.2=x:=Option.some.inj ge;have hp:=zB ep;have hx:=gk p.2 (kl p hp);rw [ge] at hx;obtain ⟨n,a1,a2⟩:=L.each p.2 x.1 (hh p.2 x hx);have ej:=L.one _ _ _ a1 (f2 p hp).1;refine ⟨n,?_,λn' hn=>?_⟩
    ·show ((lv.map (·.1)).toArray)[i]?=some (at' m x.1 n);rw [List.getElem?_toArray,zS,ep,ej];rfl
    ·show at' m x.1 n'∈((lv.map (·.1)).toArray).toList;obtain ⟨k,hk⟩:=(jI (by rw [L.sz];exact yT.mpr (uV n'))).mp (a2 n' hn);simpa using ⟨k,f3 _ _ hk⟩
end gG
namespace gG
open PySem
section
variable {prog:Program}{w:World}{K:Type} [DecidableEq K] {knd:HeapKind prog w K}{A:Around}{E:Value->Shared->Prop}{s:Shared}{a:Addr}
noncomputable def Q7 (knd:HeapKind prog w K):Prop:=∀ (A:Around) (s:Shared) (k:K) (b:Addr),knd.is s.heap k b->∀ (E:Value->Shared->Prop) (Q:Bool->Shared->Prop),(∀ v,Q v s)->wpAny (model prog w) A (hashByValue 8 (.ref b)) Q E s
noncomputable def kU (es:Array (Int×Value))(ep:Nat)(t:SetTable):Obj:={ cls:=.type "set", data:=.set es ep t }
theorem store {es es':Array (Int×Value)}{ep:Nat}{t t':SetTable}{Q:Unit->Shared->Prop}(ho:s.heap.get? a=some (kU es ep t))(hz:es'.size<=sizeLine)
  (h:∀ h',Heap.SameBut a s.heap h'->h'.get? a=some (kU es' (ep + 1) t')->Q () { s with heap:=h' }):wpAny (model prog w) A (storeSet a es' t') Q E s:=by
 refine wpAny_storeSet_of ho rfl (h _ (Heap.SameBut.update s.heap a (Obj.putSet es' t')) ?_) hz;have:=Heap.get?_update_self (Obj.putSet es' t') ho (by rw [putSet_of es' t' rfl];rfl);rw [putSet_of es' t' rfl] at this;exact this
theorem L7 {n m:Nat}(hm:Mask m)(lt:(n - 1) * 5 < m * 3)(n1:1<=n)(full:n * 5 ≥ m * 3)(jY:n<=4000):Mask (SetTable.sizeAbove (SetTable.grown n) - 1)/\n * 5 < (SetTable.sizeAbove (SetTable.grown n) - 1) * 3/\SetTable.sizeAbove (SetTable.grown n)<=8192:=by
 rcases hm with rfl | rfl | rfl | rfl | rfl | rfl
 ·have:n=5:=by omega
  subst this;exact ⟨.inr (.inl (by decide +kernel)),by decide +kernel,by decide +kernel⟩
 ·have:n=19:=by omega
  subst this;exact ⟨.inr (.inr (.inl (by decide +kernel))),by decide +kernel,by decide +kernel⟩
 ·have:n=77:=by omega
  subst this;exact ⟨.inr (.inr (.inr (.inl (by decide +kernel)))),by decide +kernel,by decide +kernel⟩
 ·have:n=307:=by omega
  subst this;exact ⟨.inr (.inr (.inr (.inr (.inl (by decide +kernel))))),by decide +kernel,by decide +kernel⟩
 ·have:n=1229:=by omega
  subst this;exact ⟨.inr (.inr (.inr (.inr (.inr (by decide +kernel))))),by decide +kernel,by decide +kernel⟩
 ·omega
theorem add {es:Array (Int×Value)}{ep:Nat}{t:SetTable}{ks:Nat->K}{kx:K}{c:Addr}{Q:Bool->Shared->Prop}(hr:knd.room A)(S:OG knd s.heap a es ep t ks)(hx:knd.is s.heap kx c)(cl:Calm knd A s)(hb:Q7 knd)(jY:es.size < 4000)
  (qt:(∃ i,i < es.size/\ks i=kx)->Q false s)
  (qf:∀ (h':Heap) (es':Array (Int×Value)) (Rn:Nat) (t':SetTable),(∀ i,i < es.size->ks i≠kx)->Heap.SameBut a s.heap h'->h'.get? a=some (kU es' Rn t')->Tab t' es'->es'.toList.Perm (es.toList++[(knd.hash kx,.ref c)])->Q true { s with heap:=h' }) :
  wpAny (model prog w) A (setAddHashed a (.ref c) (knd.hash kx)) Q E s:=by
 obtain ⟨N,n1,n2,n3⟩:=S.tab.first (knd.hash kx);have line:10000<=sizeLine:=by rw [sizeLine_eq];decide
 unfold setAddHashed setAddHashedIn;refine wpAny_holding (wpAny_bind (wpAny_setState_of S.obj rfl S.tab.fits ?_));dsimp only;rw [show byScan (.ref c) es=false from rfl];simp only [za,if_false];refine wpAny_bind ?_;unfold setSearch;have lim:10 * (t.mask + 13) < 100000:=by
  rcases S.tab.mask with h | h | h | h | h | h <;> rw [h] <;> decide
 refine search hr S.obj rfl S.tab S.keys hx cl (λr h f=>?_) n2 n3 n1 (λnf=>?_) 100000 0 none (by omega) (zb _) rfl (λn' h=>absurd h (yJ _))
 ·exact wpAny_pure (qt f)
 ·dsimp only;refine wpAny_bind (wpAny_setState_of S.obj rfl S.tab.fits ?_);dsimp only;have m7:7<=t.mask:=by rcases S.tab.mask with h | h | h | h | h | h <;> omega
  have lt:=S.tab.qe;have SR:SetTable.tooFull=λt=>decide (t.fill * 5 ≥ t.mask * 3):=rfl;have tail:∀ tt,(∃ pl,tt={ (t.put (at' t.mask (knd.hash kx) N)).1 with plain:=pl })->wpAny (model prog w) A (do
    storeSet a (SetTable.insertAt es (t.put (at' t.mask (knd.hash kx) N)).2 (knd.hash kx,Value.ref c)) tt
    if (!false && tt.tooFull)=true then do
     setRelay a (SetTable.grown (es.size + 1))
     pure true
    else pure true) Q E s:=by
   rintro tt ⟨pl,rfl⟩;obtain ⟨pt,pd,pm,ps⟩:=S.tab.put (x:=Value.ref c) n2 n3 pl;have pp:=SetTable.insertAt_perm es (t.put (at' t.mask (knd.hash kx) N)).2 (knd.hash kx,Value.ref c);rw [Array.toList_push] at pp;have sz:(SetTable.insertAt es (t.put (at' t.mask (knd.hash kx) N)).2 (knd.hash kx,Value.ref c)).size=es.size + 1:=by
    have:=pp.length_eq;rw [Array.length_toList,zE,Array.length_toList,yA] at this;exact this
   generalize (t.put (at' t.mask (knd.hash kx) N)).1=T1 at pt pd pm ps ⊢;generalize SetTable.insertAt es (t.put (at' t.mask (knd.hash kx) N)).2 (knd.hash kx,Value.ref c)=TX at pt pp sz ⊢;have fit:({ T1 with plain:=pl }:SetTable).fits TX.size=true:=by
    unfold SetTable.fits SetTable.fill;dsimp only;rw [ps,pd,sz,pm];simp;omega
   refine wpAny_bind (store S.obj (by omega) λh' sb go=>?_);have full:({ T1 with plain:=pl }:SetTable).tooFull=decide ((es.size + 1) * 5 ≥ t.mask * 3):=by
    unfold SetTable.tooFull SetTable.fill;dsimp only;rw [ps,pd,pm];rfl
   rw [full];by_cases c:(es.size + 1) * 5 ≥ t.mask * 3
   ·rw [decide_eq_true c];simp only [Bool.not_false,Bool.and_self,if_true];obtain ⟨gm,gl,gz⟩:=L7 S.tab.mask (by rw [Nat.add_sub_cancel];exact lt) (by omega) c (by omega);obtain ⟨t2,order,er,pr,T2⟩:=tE (t:={ T1 with plain:=pl }) (es:=TX) rfl gm (by rw [sz];exact gl);refine wpAny_bind ?_;unfold setRelay;refine wpAny_bind (wpAny_setState_of (s:={ s with heap:=h' }) go rfl fit ?_);dsimp only;rw [if_neg (by omega)];refine wpAny_bind ?_;rw [er];show wpAny (model prog w) A (if ((order.filterMap (TX[·]?)).size != TX.size)=true then _ else _) _ _ _;have s2:(order.filterMap (TX[·]?)).size=TX.size:=by have:=pr.length_eq;rw [Array.length_toList,Array.length_toList] at this;exact this
    rw [if_neg (by rw [s2];simp)];refine wpAny_pure ?_;dsimp only;refine store (s:={ s with heap:=h' }) go (by rw [s2];omega) λh2 sb2 go2=>?_;exact wpAny_pure (qf h2 _ _ _ nf (sb.trans sb2) go2 T2 (pr.trans pp))
   ·rw [decide_eq_false c];simp only [Bool.not_false,xK,za,if_false];exact wpAny_pure (qf h' _ _ _ nf sb go (pt (by omega)) pp)
  split
  ·refine wpAny_bind (hb _ _ _ _ hx _ _ λv=>tail _ ?_);cases v with
   | true=>exact ⟨(t.put (at' t.mask (knd.hash kx) N)).1.plain,rfl⟩
   | false=>exact ⟨false,rfl⟩
  ·refine wpAny_bind (wpAny_pure (tail _ ⟨(t.put (at' t.mask (knd.hash kx) N)).1.plain,rfl⟩))
end
end gG
namespace gG
open PySem
section
variable {prog:Program}{w:World}{K:Type} [DecidableEq K] {knd:HeapKind prog w K}{A:Around}{E:Value->Shared->Prop}{s:Shared}{a:Addr}
theorem SY {es:Array (Int×Value)}{ep:Nat}{t:SetTable}{ks:Nat->K}{kx:K}{c:Addr}{Q:Value->Shared->Prop}(hr:knd.room A.in1)(S:OG knd s.heap a es ep t ks)(hx:knd.is s.heap kx c)(cl:∀ B (s':Shared),s'.heap=s.heap->Calm knd B s')(hb:Q7 knd)(jY:es.size < 4000)
  (qt:(∃ i,i < es.size/\ks i=kx)->Q .none { s with toks:=s.toks + knd.draws kx })
  (qf:∀ (h':Heap) (es':Array (Int×Value)) (Rn:Nat) (t':SetTable),(∀ i,i < es.size->ks i≠kx)->Heap.SameBut a s.heap h'->h'.get? a=some (kU es' Rn t')->Tab t' es'->es'.toList.Perm (es.toList++[(knd.hash kx,.ref c)])->Q .none { s with heap:=h',toks:=s.toks + knd.draws kx }) :
  wpAny (model prog w) A (call (.builtin "set.add") [.ref a,.ref c]) Q E s:=by
 refine wpAny_call_entry F.slot_set_add (mZ S) F.entry_set_add ?_ (F.args_set_add_2 _ _);unfold Builtin.«set.add» Builtin.Frozenset.oneOther;simp only [List.isEmpty_nil,bind_assoc];unfold Builtin.Frozenset.addrOf setAdd;refine wpAny_bind (wpAny_pure ?_);try dsimp only
 refine wpAny_bind (wpAny_pure ?_);try dsimp only
 refine wpAny_bind ?_;refine wpAny_holding ?_;refine wpAny_bind (knd.pyHash hr hx ?_);refine add (s:={ s with toks:=s.toks + knd.draws kx }) hr ⟨S.obj,S.tab,S.keys⟩ hx (cl _ _ rfl) hb jY (λf=>?_) (λh' es' Rn t' nf sb go T' pm=>?_)
 ·show wpAny _ _ (ret Value.none) _ _ _;exact wpAny_pure ⟨_,rfl,qt f⟩
 ·show wpAny _ _ (ret Value.none) _ _ _;exact wpAny_pure ⟨_,rfl,qf h' es' Rn t' nf sb go T' pm⟩
end
section
variable {prog:Program}{w:World}{K:Type} [DecidableEq K] {knd:KeyKind prog w K}
theorem NV {v:Value}(h:carriedByValue v=true)(n:Nat):ofAClassStatement n v=pure false:=by
 cases v with
 | ref a=>cases h
 | _=>cases n <;> rfl
theorem sR {A:Around}{s:Shared}:Calm (tupleKind knd) A s:=by
 intro k b hk E Q q;have hT:s.TypeIs (.ref b) "tuple" := IsTupleKey.typeIs hk;obtain ⟨o,items,n,ho,hc,hd,hi⟩:=hk;unfold ofAClassStatement;refine wpAny_bind (wpAny_typeOf hT ?_);dsimp only;rw [if_pos (by decide)];refine wpAny_bind (wpAny_pure ?_);simp only [Bool.not_true,za,if_false];refine wpAny_bind (wpAny_seqItems ho hd ?_);dsimp only;refine wpAny_bind ?_;rw [<-Array.forIn_toList];refine wpAny_forIn_list _ (λrest r s'=>r.1=none/\s'=s/\∀ v∈rest,carriedByValue v=true) _ ?_ ?_ _ _ ⟨rfl,rfl,hi.byValue⟩
 ·rintro v rest r s' ⟨hr,rfl,fJ⟩;rw [NV (fJ v z8)];refine wpAny_bind (wpAny_pure ?_);simp only [za,if_false];exact wpAny_pure ⟨rfl,rfl,λu hu=>fJ u (zc _ hu)⟩
 ·rintro ⟨r1,r2⟩ s' ⟨hr,rfl,_⟩;simp only at hr;subst hr;exact wpAny_pure q
theorem vN {v:Value}(h:carriedByValue v=true)(n:Nat):∃ c,hashByValue n v=pure c:=by
 cases v with
 | ref a=>cases h
 | _=>cases n <;> exact ⟨_,rfl⟩
theorem Nz:Q7 (tupleKind knd):=by
 intro A s k b hk E Q q;have hT:s.TypeIs (.ref b) "tuple" := IsTupleKey.typeIs hk;obtain ⟨o,items,n,ho,hc,hd,hi⟩:=hk;unfold hashByValue;refine wpAny_bind (wpAny_specialOf hT F.slot_tuple_hash.lookup ?_);dsimp only;refine wpAny_bind (wpAny_seqItems ho hd ?_);dsimp only [Option.getD];refine wpAny_bind ?_;rw [<-Array.forIn_toList];refine wpAny_forIn_list _ (λrest r s'=>r.1=none/\s'=s/\∀ v∈rest,carriedByValue v=true) _ ?_ ?_ _ _ ⟨rfl,rfl,hi.byValue⟩
 ·rintro v rest r s' ⟨hr,rfl,fJ⟩;obtain ⟨c,TL⟩:=vN (fJ v z8) 7;rw [TL];refine wpAny_bind (wpAny_pure ?_);cases c with
  | true=>
   simp only [Bool.not_true,za,if_false];exact wpAny_pure ⟨rfl,rfl,λu hu=>fJ u (zc _ hu)⟩
  | false=>
   simp only [Bool.not_false,if_true];exact wpAny_pure (wpAny_pure (q _))
 ·rintro ⟨r1,r2⟩ s' ⟨hr,rfl,_⟩;simp only at hr;subst hr;exact wpAny_pure (q _)
end
end gG
namespace L2
open PySem PySem.Spec PyProof.Rows gG
noncomputable def kq (P:Program)(w:World)(a:Addr)(xs:List (Addr×List Int)):HO:=.ext λh=>∃ es ep t,h.get? a=some (kU es ep t)/\Tab t es/\es.toList.Perm (xs.map λx=>(tupleKeyHash (aQ P w) (x.2.map Sum.inl),Value.ref x.1))
section
variable {X:Cx}{aa:List (Addr×Obj)}{σ:St}{H:Hp}{s:Shared}{a:Addr}
theorem MG {P:Program}{w:World}{H:Hp}{h:Heap}{xs:List (Addr×List Int)}{es:Array (Int×Value)}{ep:Nat}{t:SetTable}(ho:h.get? a=some (kU es ep t))(T:Tab t es)(pm:es.toList.Perm (xs.map λx=>(tupleKeyHash (aQ P w) (x.2.map Sum.inl),Value.ref x.1))) :
  bK P w H h a (kq P w a xs):=⟨⟨es,ep,t,ho,T,pm⟩,⟨_,ho⟩,λh1 h2 ⟨es,ep,t,ho,T,pm⟩ k=>⟨es,ep,t,k _ ho,T,pm⟩⟩
theorem nY (ks:List Int):ks.map V.int=(ks.map Sum.inl).map kV:=by rw [z4];rfl
theorem MH (I:Inv X aa σ H s){xs:List (Addr×List Int)}(h:H a=some (kq X.prog X.w a xs))(hk:∀ e∈xs,H e.1=some (.tup (e.2.map V.int))) :
  ∃ es ep t ks,OG (tupleKind (aQ X.prog X.w)) s.heap a es ep t ks/\es.toList.Perm (xs.map λx=>(tupleKeyHash (aQ X.prog X.w) (x.2.map Sum.inl),Value.ref x.1)) /\
   (∀ k:List Int,(∃ i,i < es.size/\ks i=k.map Sum.inl)↔k∈xs.map (·.2)):=by
 obtain ⟨⟨es,ep,t,ho,T,pm⟩,_⟩:=I.aY a _ h;have pick:∀ i,∃ x:Addr×List Int,i < es.size->x∈xs/\es[i]?=some (tupleKeyHash (aQ X.prog X.w) (x.2.map Sum.inl),Value.ref x.1):=λi=>by
  by_cases hi:i < es.size
  ·have:=pm.mem_iff.mp (show es[i]∈es.toList from by simp);obtain ⟨x,hx,e⟩:=zP.mp this;exact ⟨x,λ_=>⟨hx,by rw [Array.getElem?_eq_getElem hi,<- e]⟩⟩
  ·exact ⟨(0,[]),λz=>absurd z hi⟩
 refine ⟨es,ep,t,λi=>((pick i).choose).2.map Sum.inl,⟨ho,T,λi hi=>?_⟩,pm,λk=>⟨?_,λTH=>?_⟩⟩
 ·obtain ⟨h1,h2⟩:=(pick i).choose_spec hi;exact ⟨_,Option.some.inj ((Array.getElem?_eq_getElem hi).symm.trans h2),ie I.aY (by rw [hk _ h1,nY])⟩
 ·rintro ⟨i,hi,e⟩;obtain ⟨h1,h2⟩:=(pick i).choose_spec hi;have:((pick i).choose).2=k:=List.map_inj_right (λx y z=>Sum.inl.inj z) |>.mp e;exact zP.mpr ⟨_,h1,this⟩
 ·obtain ⟨x,hx,rfl⟩:=zP.mp TH;have:=pm.mem_iff.mpr (zP.mpr ⟨x,hx,rfl⟩);obtain ⟨i,hi,e⟩:=yw this;have fm:i < es.size:=by simpa using hi
  refine ⟨i,fm,?_⟩;obtain ⟨h1,h2⟩:=(pick i).choose_spec fm;have e':es[i]?=some (tupleKeyHash (aQ X.prog X.w) (x.2.map Sum.inl),Value.ref x.1):=by rw [<-Array.getElem?_toList,zL hi,e]
  rw [h2] at e';have ea:((pick i).choose).1=x.1:=by injection e' with e';injection e' with _ e';injection e'
  have t1:=hk _ h1;have t2:=hk _ hx;rw [ea,t2] at t1;injection t1 with t1
  injection t1 with t1
  have:x.2=((pick i).choose).2:=List.map_inj_right (λx y z=>V.int.inj z) |>.mp t1;rw [this]
noncomputable def R0 (P:Program)(w:World):List V->Hp->VK->Prop:=λxs H Q=>xs=[]/\∀ p,H p=none->Q (.ref p) (upd H p (kq P w p []))
theorem uO:dZ X (.type "set") (R0 X.prog X.w):=by intro aa s σ H xs us Q I r h;obtain ⟨rfl,q⟩:=h;cases r;refine call_set_0 λled=>?_;refine ⟨.ref s.heap.objs.size,_,I.laid (a:=s.heap.objs.size) (o:=kq X.prog X.w s.heap.objs.size []) (t':=s.toks) (λ_ _ q=>Heap.get?_push_of_some _ q) (zD _) ?_,rfl,q _ (I.aY.fresh (zD _))⟩;exact MG (Heap.get?_push_size _ rfl) ⟨.inl rfl,rfl,.nil,rfl,(λ_ z=>nomatch z),(by show 0 * 5 < 7 * 3;decide),λi hi=>absurd hi (yJ _)⟩ .nil
noncomputable def ZD (P:Program)(w:World):R2:=λx y H Q=>∃ p xs c,∃ k:List Int,x=.ref c/\y=.ref p/\H p=some (kq P w p xs)/\H c=some (.tup (k.map V.int))/\(∀ e∈xs,H e.1=some (.tup (e.2.map V.int)))/\Q (.bl (decide (k∈xs.map (·.2)))) H
theorem P1 (hu:X.A.units + 64 < cLine):gO X (compareOp .In) (ZD X.prog X.w):=by
 intro aa s σ H x y v u Q I rx ry h;obtain ⟨p,xs,c,k,rfl,rfl,hp,hc,hk,q⟩:=h;cases rx;cases ry;obtain ⟨es,ep,t,ks,S,pm,mem⟩:=MH I hp hk;refine inSet (knd:=tupleKind (aQ X.prog X.w)) (kx:=k.map Sum.inl) (show X.A.units + 1 < cLine by omega) S (ie I.aY (by rw [hc,nY])) (λ_ _ _=>sR) (λf=>?_) (λnf=>?_)
 ·rw [decide_eq_true ((mem k).mp f)] at q;exact ⟨.bl true,H,I.kept (λ_ _ z=>z),rfl,q⟩
 ·rw [decide_eq_false λz=>by obtain ⟨i,hi,e⟩:=(mem k).mpr z;exact nf i hi e] at q;exact ⟨.bl false,H,I.kept (λ_ _ z=>z),rfl,q⟩
noncomputable def WW (P:Program)(w:World):V->List V->Hp->VK->Prop:=λx vs H Q=>∃ p xs c,∃ k:List Int,x=.ref p/\vs=[.ref c]/\H p=some (kq P w p xs)/\H c=some (.tup (k.map V.int))/\(∀ e∈xs,H e.1=some (.tup (e.2.map V.int)))/\xs.length < 4000 /\
 (k∈xs.map (·.2)->Q .cI H)/\(k ∉ xs.map (·.2)->Q .cI (upd H p (kq P w p (xs++[(c,k)]))))
theorem M1 (hu:X.A.units + 64 < cLine):Zk X "set.add" (WW X.prog X.w):=by
 intro aa s σ H x vs v us Q I rx rv h;obtain ⟨p,xs,c,k,rfl,rfl,hp,hc,hk,jY,q1,q2⟩:=h;cases rx;obtain ⟨u,rfl,ru⟩:=rv.one;cases ru;obtain ⟨es,ep,t,ks,S,pm,mem⟩:=MH I hp hk;have sz:es.size=xs.length:=by have:=pm.length_eq;rw [Array.length_toList,zA] at this;exact this
 refine SY (knd:=tupleKind (aQ X.prog X.w)) (kx:=k.map Sum.inl) (show X.A.units + 1 < cLine by omega) S (ie I.aY (by rw [hc,nY])) (λ_ _ _=>sR) Nz (by omega) (λf=>?_) (λh' es' Rn t' nf sb go T' Tf=>?_)
 ·exact ⟨.cI,H,I.kept (λ_ _ z=>z),rfl,q1 ((mem k).mp f)⟩
 ·refine ⟨.cI,_,I.write (x:=p) (e:=p) (by rw [hp];trivial) (.inl rfl) (λb o hb z=>(sb.2 b hb).trans z) ⟨_,go⟩ (MG go T' ?_),rfl,q2 λz=>by obtain ⟨i,hi,e⟩:=(mem k).mpr z;exact nf i hi e⟩;rw [zI];exact Tf.trans (pm.append_right _)
noncomputable def Zv (P:Program)(w:World)(r:V->List V->Hp->VK->Prop)(to:TE)(t:TA):TE:=fun σ H Q=>to σ H λx H1=>(∃ p xs,x=.ref p/\H1 p=some (kq P w p xs))/\t σ H1 λxs H2=>r x xs H2 Q
theorem PX {o e:Expr}{es:List Expr}{to:TE}{t:TA}{name:Str}{apos dm:Pos}{id:String}{r:V->List V->Hp->VK->Prop}(slot:Slot "set" name id)(Xx:typeOf (.builtin id)=pure (.type "method_descriptor"))(hm:Zk X id r)(ho:PE X o to)(ha:PA X (e::es) t)
  (Qz:attributeBase o name X.env (eval o X.env)=eval o X.env:=by rfl)
  (Vr:((backTo dm (starEach (e::es) X.env)).all (λx=>!x.1) && (backToKw dm (keywordEach [] X.env)).all (λx=>x.1.isSome)
   && decide ((e::es).length + ([]:List Keyword).length + (if ([]:List Keyword).isEmpty then 0 else 1) < 30))=true:=by rfl)
  (Qu:(apos.endLine == dm.line)=true:=by rfl) (hs:starEach (e::es) X.env=(false,eval e X.env)::starEach es X.env:=by rfl) (LY:(backTo dm (starEach es X.env)).any (·.1)=false:=by rfl) :
  PE X (.Call (.Attribute o name apos) (e::es) [] dm) (Zv X.prog X.w r to t):=by
 intro aa s σ H Q I h;refine wpAny_Call_method_late Qz Vr Qu rfl (bu (ho aa s σ H _ I h) λv s1 ⟨x,H1,I1,r1,⟨p,xs,ex,hp⟩,q1⟩=>?_);subst ex;cases r1;obtain ⟨⟨es',ep,tt,Ri,_⟩,_⟩:=I1.aY p _ hp;refine ⟨"set", id,F.plainAttrs_set,slot,Xx,⟨_,Ri,rfl⟩,λa e=>by cases e;exact ⟨_,Ri,rfl⟩,?_⟩;have hA:=ha dm aa s1 σ H1 _ I1 q1;rw [hs] at hA ⊢;refine Calls.callWith_builtin (by show (false || (backTo dm (starEach es X.env)).any (·.1))=false;rw [LY] <;> rfl) (Calls.evalArgs_plain ?_);exact bu hA λus s2 ⟨vs,H2,I2,r2,q2⟩=>hm aa s2 σ H2 (.ref p) vs (.ref p) us Q I2 rfl r2 q2
end
end L2
namespace L2
open PySem PySem.Spec PyProof.Rows PySem.W
theorem So {P:Program}{w:World}{K:PySem.W.Frag}{mg:Str->Option Value}{base:Heap}{k:Nat}{f c':Addr}{name qual:Str}{params:Arguments}{body:Expr}{scope:Scope}{pm rX:Value}{N ps:List Str}
  {A:Around}{outer:List Env}{s:Shared}{H:Hp}{us:List Value}{vs:List V}{Q:VK} (S:aA N ps scope) (hr:cJ (k + 1) A) (e0:oS P w K mg base A outer s H)
  (ho:s.heap.get? f=some (kla_obj name qual params body scope [] pm c' rX)) (rN:s.heap.CodeRec (.ref c') qual) (hb:bindArgs (kla_fn name qual params body scope [] pm (.ref c') rX) ⟨us,[]⟩=pure (ps.zip us)) (hl:vs.length=ps.length) (r:Vals vs us)
  (ir:∃ t,PE (iu cR P w K mg base N qual scope f (.ref c') A outer s H E0).rE body t/\t (start N vs) H Q) :
  codeAny (model P w) A (.call (.ref f) ⟨us,[]⟩) (CR cR outer P w H s Q E0) s:=by
 have lim:s.heap.NoLimit:=e0.mod.nolimit.keeps λb o e=>(e0.bs b o e).1;have Qv:∀ y∈ps.zip us,scope.names.lookup y.1=some .local\/(scope.names.lookup y.1=some .cell/\((cellsFrom (s.heap.objs.size + 1) scope.names []).lookup y.1).isSome=true):=λ⟨n,v⟩ hy=>by
  rcases S.par n (List.of_mem_zip hy).1 with q | q
  ·exact .inl q
  ·exact .inr ⟨q,PySem.W.cellsFrom_some _ _ _ (.inl q)⟩
 refine kla_callFunE hr.depth ho rfl S.co S.gen rfl rN ?_;rw [hb];refine wpAny_pure ?_;refine wpAny_newFunctionEnv_cells S.kind Qv λenv he s1 x=>?_;subst he;refine ⟨lim.keeps x.toInCall.keep,kla_codeExpr ?_⟩;obtain ⟨t,ht,hq⟩:=ir;have I:Inv (iu cR P w K mg base N qual scope f (.ref c') A outer s H E0) [] (start N vs) H s1:=qj S hr.hd e0 hl r x;refine wpAny_mono (ht.rE [] s1 (start N vs) H _ I hq) (λu s' hs=>?_) λe s' hs=>hs;obtain ⟨v,H',J,rv,q⟩:=hs;exact ⟨v,H',J.os,J.bare,J.base,J.aY,rv,q⟩
noncomputable def oH (c:Addr)(qual:Str):HO:=.ext λh=>h.CodeRec (.ref c) qual
noncomputable def MT (P:Addr)(pos:Pos)(qual:Str)(H:Hp):Prop:=H P=some (.jv #[])\/∃ c,H P=some (.jv #[rawInt pos.line,rawInt pos.col,.ref c])/\H c=some (oH c qual)
noncomputable def br (mg:Str->Option Value)(base:Heap):Prop:=∃ bm o,mg "__builtins__" = some (.ref bm)/\bm≠builtinsNs/\bm≠mainGlobals/\base.get? bm=some o/\o.cls=.type "module" /\ o.dict=some builtinsNs/\o.data=.plain
section
variable {X:Cx}{aa:List (Addr×Obj)}{σ:St}{H:Hp}{s:Shared}
theorem Inv.X8 (I:Inv X aa σ H s):∀ b∈X.fs,b < s.heap.objs.size:=λb hb=>by
 obtain ⟨_,o,ho,_⟩:=I.ok.gc.mem hb;exact zR (Heap.lt_size ho) I.sz
theorem QS {P:Program}{w:World}{H:Hp}{h:Heap}{c:Addr}{qual:Str}(r:h.CodeRec (.ref c) qual):bK P w H h c (oH c qual):=by obtain ⟨c2,oc,vs,t,e,ho,hd,hv⟩:=id r;cases e;exact ⟨r,⟨_,ho⟩,λh1 h2 ⟨c2,oc,vs,t,e,ho,hd,hv⟩ k=>by cases e;exact ⟨c,oc,vs,t,rfl,k _ ho,hd,hv⟩⟩
theorem Qk {P c:Addr}{pos:Pos}{params:Arguments}{body:Expr}{scope:Scope}{Q:Value->Shared->Prop}(I:Inv X aa σ H s)(mt:MT P pos (X.env.qual ++ "<lambda>") H)(M9:X.env.code=.ref c)(hd:codeHdIn X.K c P=true)(bm:br X.mg X.base)
  (Vs:defaultsOf params X.env=([],[])) (We:closureFor scope X.env=pure [])
  (h:∀ f c' rX pm H' s',Inv X ((f,kla_obj "<lambda>" (X.env.qual ++ "<lambda>") params body scope [] pm c' rX)::aa) σ H' s'->H' c'=some (oH c' (X.env.qual ++ "<lambda>"))->Sm.bY P H H'->MT P pos (X.env.qual ++ "<lambda>") H'->Q (.ref f) s') :
  wpAny (model X.prog X.w) X.A (eval (.Lambda params body scope pos) X.env) Q X.xe s:=by
 refine kla_eval Vs ?_;have glob:s.heap.Ns mainGlobals X.mg:=I.mod.glob.keeps I.bk;have C:CodeHd s.heap c P:=codeHd_of_K I.jM hd;have tr:∃ o,H P=some o:=by rcases mt with e | ⟨_,e,_⟩ <;> exact ⟨_,e⟩
 have eX:∀ b o,X.base.get? b=some o->b≠P:=λb o e z=>by
  have:=(I.bs b o e).2;obtain ⟨u,hu⟩:=tr;rw [z,hu] at this;cases this
 have hgP:mainGlobals≠P:=by
  obtain ⟨o,_,_,e,_⟩:=I.mod.glob;exact eX _ _ e
 have hB:s.heap.BuiltinsAt X.mg P:=by
  obtain ⟨b,o,e1,e2,e3,e4,e5,e6,e7⟩:=bm;exact ⟨b,o,e1,e2,e3,eX _ _ e4,I.bk _ _ e4,e5,e6,e7⟩
 have pin:∀ {h':Heap}{H':Hp}{ob:Obj}{tk:Nat},Inv X aa σ H' { s with heap:=h'.push ob,toks:=tk }->s.heap.objs.size<=h'.objs.size->H' h'.objs.size=none->(∀ v,ob.data≠.cell v)->ob.isFreed=false->Inv X ((h'.objs.size,ob)::aa) σ H' { s with heap:=h'.push ob,toks:=tk }:=λ{h' H' ob tk} J hs hn nc nf=>
  J.cY λp hp=>by
   rcases zH.mp hp with rfl | hp
   ·exact ⟨Heap.get?_push_size _ nf,hn,yQ (zR I.lt hs),λz=>z6 _ (zR (I.X8 _ z) hs),nc⟩
   ·exact J.pin p (zK _ hp)
 rcases mt with mt | ⟨c1,mt,hc1⟩
 ·have hP:s.heap.get? P=some (tabObj #[]):=I.aY P _ mt;refine kla_makeFunction We I.ok.glob glob M9 C hP trivial rfl hgP hB λc' rX h' tk hx hge fk rec hP'=>?_;have fr:H c'=none:=I.aY.fresh hge;have ncP:c'≠P:=λz=>by rw [z,mt] at fr;cases fr
  have ZC:(h'.push (kla_obj "<lambda>" (X.env.qual ++ "<lambda>") params body scope [] ((X.mg "__name__").getD .none) c' rX)).CodeRec (.ref c') (X.env.qual ++ "<lambda>"):=by
   obtain ⟨c2,oc,vs,t,e,ho,hd,hv⟩:=rec;exact ⟨c2,oc,vs,t,e,Heap.get?_push_of_some _ ho,hd,hv⟩
  have kp:∀ b o,b≠P->s.heap.get? b=some o->(h'.push (kla_obj "<lambda>" (X.env.qual ++ "<lambda>") params body scope [] ((X.mg "__name__").getD .none) c' rX)).get? b=some o:=λb o hb e=>Heap.get?_push_of_some _ (hx b o hb e);have hP2:=Heap.get?_push_of_some (kla_obj "<lambda>" (X.env.qual ++ "<lambda>") params body scope [] ((X.mg "__name__").getD .none) c' rX) hP';have at_:∀ b,b≠P->b≠c'->upd (upd H P (.jv #[rawInt pos.line,rawInt pos.col,.ref c'])) c' (oH c' (X.env.qual ++ "<lambda>")) b=H b:=λb h1 h2=>by rw [xj h2,xj h1]
  have neT:∀ b u,H b=some u->u≠.jv #[]->b≠P:=λb u e n z=>by rw [z,mt] at e;cases e;exact n rfl
  have Qa:∀ b u,H b=some u->b≠c':=λb u e z=>by rw [z,fr] at e;cases e
  have lt:∀ b o,s.heap.get? b=some o->b≠c':=λb o e=>zV (zR (Heap.lt_size e) hge);have aP:upd (upd H P (.jv #[rawInt pos.line,rawInt pos.col,.ref c'])) c' (oH c' (X.env.qual ++ "<lambda>")) P=some (.jv #[rawInt pos.line,rawInt pos.col,.ref c']):=by rw [xj ncP.symm,xb]
  have J:Inv X aa σ (upd (upd H P (.jv #[rawInt pos.line,rawInt pos.col,.ref c'])) c' (oH c' (X.env.qual ++ "<lambda>"))) { s with heap:=h'.push (kla_obj "<lambda>" (X.env.qual ++ "<lambda>") params body scope [] ((X.mg "__name__").getD .none) c' rX),toks:=tk }:=by
   refine I.un ⟨λb o e n _ _=>kp b o (λz=>by rw [z,mt] at n;cases n) e,λb o e n _ _=>⟨o.slots,kp b o (λz=>by rw [z,mt] at n;cases n) e⟩,λb o e n _=>?_,λb o e _=>?_,λb xs e=>?_,λb o u e=>?_,λb ps e=>?_⟩ λb u e=>?_
   ·rw [at_ b (λz=>by rw [z,mt] at n;cases n) (lt b o e)];exact n
   ·by_cases z:b=P
    ·exact ⟨_,by rw [z];exact hP2⟩
    ·exact ⟨o,kp b o z e⟩
   ·rw [at_ b (neT b _ e (by intro z;cases z)) (Qa b _ e)];exact e
   ·rw [at_ b (neT b _ e (by intro z;cases z)) (Qa b _ e)];exact e
   ·by_cases z:b=P
    ·rw [z,mt] at e;cases e;exact ⟨_,by rw [z,aP,Array.empty_append]⟩
    ·exact ⟨#[],by rw [at_ b z (Qa b _ e),e,Array.append_empty]⟩
   ·by_cases z:b=c'
    ·subst z;rw [xb] at e;cases e;exact QS ZC
    ·by_cases z2:b=P
     ·rw [z2,aP] at e;cases e;rw [z2];exact hP2
     ·rw [at_ b z2 z] at e;refine (I.aY b u e).dJ (λb' v hb q=>kp b' v (λy=>?_) q) (λb' q=>by rw [at_ b' (neT b' _ q (by intro z;cases z)) (Qa b' _ q)];exact q) λb' xs q=>by rw [at_ b' (neT b' _ q (by intro z;cases z)) (Qa b' _ q)];exact q
      rcases hb with hb | hb
      ·exact z2 (hb.symm.trans y)
      ·rw [y,mt] at hb;cases hb
  have nf:upd (upd H P (.jv #[rawInt pos.line,rawInt pos.col,.ref c'])) c' (oH c' (X.env.qual ++ "<lambda>")) h'.objs.size=none:=by
   rw [at_ h'.objs.size (yQ (Heap.lt_size hP')) (yQ fk)];exact I.aY.fresh (by omega)
  refine h _ c' rX ((X.mg "__name__").getD .none) _ _ (pin J (by omega) nf (by intro v z;cases z) rfl) xb (λb u hb e=>?_) (.inr ⟨c',aP,xb⟩);rw [at_ b hb (Qa b _ e)];exact e
 ·have hP:s.heap.get? P=some (tabObj #[rawInt pos.line,rawInt pos.col,.ref c1]):=I.aY P _ mt;refine kla_makeFunctionHit (cv:=.ref c1) We I.ok.glob glob M9 C hP ⟨⟩ ?_ hB λrX h' tk kp hs=>?_
  ·have:=codeAmong_snoc (pos:=pos) (c:=Value.ref c1) [] trivial rfl;exact this
  ·have J:Inv X aa σ H { s with heap:=h'.push (kla_obj "<lambda>" (X.env.qual ++ "<lambda>") params body scope [] ((X.mg "__name__").getD .none) c1 rX),toks:=tk }:=I.kept λb o e=>Heap.get?_push_of_some _ (kp b o e);refine h _ c1 rX ((X.mg "__name__").getD .none) H _ (pin J hs (I.aY.fresh hs) (by intro v z;cases z) rfl) hc1 (Sm.bY.refl P H) (.inr ⟨c1,mt,hc1⟩)
end
end L2
namespace L2
open PySem PySem.Spec PyProof.Rows PySem.W aZ
section
variable {X:Cx}{aa:List (Addr×Obj)}{σ:St}{H:Hp}{s:Shared}
theorem Inv.adopt {h':Heap}{D:Addr}{xs:List V}{aC:List Value}{n t':Nat}(I:Inv X aa σ H s)(k:∀ b o,b≠D->s.heap.get? b=some o->h'.get? b=some o)(hn:H D=none)(hs:X.cP.heap.objs.size<=D)(hL:D≠X.env.locals)
  (h2:∀ x c,X.env.cells.lookup x=some c->c≠D) (h3:∀ p∈X.pn++aa,p.1≠D) (ho:h'.get? D=some { cls:=.type "list", data:=.seq aC.toArray n }) (hv:Vals xs aC) (hz:xs.length<=sizeLine) :
  Inv X aa σ (upd H D (.lst xs)) { s with heap:=h',toks:=t' }:=by
 have nD:∀ b u,H b=some u->b≠D:=λb u e z=>by rw [z,hn] at e;cases e
 refine I.step (g':=s.gens) (d':=s.drawn) (ch:=[D]) (λb hb=>?_) (λb o _ _ hc e _=>k b o (λz=>hc (by simp [z])) e) (λb o _ _ hc e _=>⟨o.slots,k b o (λz=>hc (by simp [z])) e⟩)
  (λb o hc e n=>by rw [xj (λz=>hc (by simp [z]))];exact n) (λb o hc e=>⟨o,k b o (λz=>hc (by simp [z])) e⟩) (λb ys e=>by rw [xj (nD b _ e)];exact e) (λb o u e=>by rw [xj (nD b _ e)];exact e)
  (λb ps e=>⟨#[],by rw [xj (nD b _ e),e];simp⟩) (λm hm=>?_) (λb u e=>?_) I.bare
 ·have e:b=D:=by simpa using hb
  subst e;exact ⟨.inr hs,hL,h2,h3⟩
 ·obtain ⟨o,es,ep,pD,r⟩:=hm;exact ⟨o,es,ep,k _ o (Ne.symm hL) pD,r⟩
 ·by_cases hb:b=D
  ·subst hb;rw [xb] at e;cases e;exact ⟨hz,aC,n,hv,ho⟩
  ·rw [xj hb] at e;refine (I.aY b u e).dJ (λc v hc q=>k c v ?_ q) (λc q=>by rw [xj (nD c _ q)];exact q) λc ys q=>by rw [xj (nD c _ q)];exact q
   rcases hc with z | z
   ·rw [z];exact hb
   ·exact nD c _ z
theorem Inv.VQ (I:Inv X aa σ H s){x:Str}{c:Addr}(h:X.env.cells.lookup x=some c):c < s.heap.objs.size:=by obtain ⟨v,o,ho,_⟩:=I.cell x c h;exact Heap.lt_size ho
theorem OX {a b:List Value}(h:b.length<=a.length):(a.toArray.zip b.toArray).map (·.2)=b.toArray:=by apply Array.toList_inj.mp;rw [Array.toList_map,ksk_zip];exact List.map_snd_zip h
structure VY (X:Cx) (aa:List (Addr×Obj)) (σ:St) (H:Hp) (kS:Addr) (kf:List Int->List Int) (ps:List (Addr×List Int)) (i:Nat) (s':Shared):Prop where
 ex:∃ H',∃ ks:List (Addr×List Int),Inv X aa σ H' s'/\H' kS=some (.lst (ks.map λk=>V.ref k.1))/\(∀ b u,H b=some u->H' b=some u)/\(∀ k∈ks,H' k.1=some (.tup (k.2.map V.int)))/\ks.map (·.2)=(ps.take i).map λa=>kf a.2
theorem NQ {f:Value}{D:Addr}{h:Heap}{kf:List Int->List Int}{ps:List (Addr×List Int)}{A:Around}{P:PySem.Fin->Shared->Prop}{E:Value->Shared->Prop}{t0:Nat}(I:Inv X aa σ H s)(kp:∀ b o,s.heap.get? b=some o->h.get? b=some o)(SH:s.heap.objs.size<=D)(hDh:D < h.objs.size)
  (hD:h.get? D=some (seqObj "list" (ps.map λa=>Value.ref a.1).toArray 0)) (X0:ps.length < 64) (rows:∀ a∈ps,H a.1=some (.tup (a.2.map V.int))) (Z1:∀ a∈ps,kf a.2≠[])
  (turn:∀ (iW:List (Addr×Obj)) (a:Addr) (r:List Int) (s':Shared) (H':Hp),(∀ p∈aa,p∈iW)->(a,r)∈ps->Inv X iW σ H' s'->(∀ b u,H b=some u->H' b=some u) ->
   wpAny (model X.prog X.w) A (call f [.ref a]) (EP X iW σ λv V0=>∃ t,v=.ref t/\aB H' V0/\V0 t=some (.tup ((kf r).map V.int))) (λ_ _=>False) s')
  (q:∀ qs H2 s2,Inv X aa σ (upd H2 D (.lst (qs.map λa=>V.ref a.1))) s2->H2 D=none->(∀ b u,H b=some u->H2 b=some u)->List.Perm qs ps->qs.Pairwise (λa b=>lx (kf b.2) (kf a.2)=false)->P (.done (.ret .none)) s2) :
  wpAny (model X.prog X.w) A (ksk_tree D f false) P E { s with heap:=h,toks:=t0 }:=by
 have line:100<=sizeLine:=by rw [sizeLine_eq];decide
 unfold ksk_tree;refine wpAny_bind (listItems_at (s:={ s with heap:=h,toks:=t0 }) hD rfl ?_);refine wpAny_bind (listUpdate_at (s:={ s with heap:=h,toks:=t0 }) hD rfl ?_ (by rw [zQ,zA];omega) (zb _));obtain ⟨e1,ho1⟩:∃ e1,(h.update D (Obj.mapSeq λ_=>(#[]:Array Value))).get? D=some (seqObj "list" #[] e1):=⟨_,get?_update_seq hD λ_=>#[]⟩;refine wpAny_bind (seqEpoch_at ho1 rfl ?_);refine wpAny_bind (wpAny_newTuple ?_ (by show (ps.map λa=>Value.ref a.1).length<=_;rw [zA];omega));refine wpAny_bind (wpAny_newList ?_ (zb _));refine wpAny_holding ?_;have sz2:((h.update D (Obj.mapSeq λ_=>(#[]:Array Value))).push (seqObj "tuple" (ps.map λa=>Value.ref a.1).toArray 0)).objs.size=h.objs.size + 1:=by rw [size_push',Heap.size_update]
 show wpAny _ _ (ksk_rest D f false (ps.map λa=>Value.ref a.1).toArray e1 (.ref ((h.update D (Obj.mapSeq λ_=>(#[]:Array Value))).push (seqObj "tuple" (ps.map λa=>Value.ref a.1).toArray 0)).objs.size)) _ _ _;rw [sz2];have kS1:D < h.objs.size + 1:=yZ hDh;have kp3:∀ b o,s.heap.get? b=some o->(((h.update D (Obj.mapSeq λ_=>(#[]:Array Value))).push (seqObj "tuple" (ps.map λa=>Value.ref a.1).toArray 0)).push (seqObj "list" #[] 0)).get? b=some o:=λb o e=>by
  refine Heap.get?_push_of_some _ (Heap.get?_push_of_some _ ?_);rw [Heap.get?_update_ne _ _ _ _ (zV (zR (Heap.lt_size e) SH))];exact kp b o e
 have atK:=Heap.get?_push_size ((h.update D (Obj.mapSeq λ_=>(#[]:Array Value))).push (seqObj "tuple" (ps.map λa=>Value.ref a.1).toArray 0)) (o:=seqObj "list" #[] 0) rfl;rw [sz2] at atK;have atD:=Heap.get?_push_of_some (seqObj "list" #[] 0) (Heap.get?_push_of_some (seqObj "tuple" (ps.map λa=>Value.ref a.1).toArray 0) ho1);have szS:s.heap.objs.size<=h.objs.size + 1:=yB SH (xL (yZ hDh));have I3:Inv X aa σ (upd H (h.objs.size + 1) (.lst [])) { s with heap:=((h.update D (Obj.mapSeq λ_=>(#[]:Array Value))).push (seqObj "tuple" (ps.map λa=>Value.ref a.1).toArray 0)).push (seqObj "list" #[] 0),toks:=t0 }:=
  I.laid kp3 szS (show bK X.prog X.w _ _ _ (.lst []) from ⟨zb _,[],0,.nil,atK⟩)
 have fD:H D=none:=I.aY.fresh SH;have I4:=I3.cY (iW:=(D,seqObj "list" #[] e1)::aa) λp hp=>by
  rcases zH.mp hp with rfl | hp
  ·exact ⟨atD,by rw [xj (zV kS1)];exact fD,yQ (zR I.lt SH),λz=>z6 _ (zR (I.X8 _ z) SH),by intro v z;cases z⟩
  ·exact I3.pin p (zK _ hp)
 generalize ((h.update D (Obj.mapSeq λ_=>(#[]:Array Value))).push (seqObj "tuple" (ps.map λa=>Value.ref a.1).toArray 0)).push (seqObj "list" #[] 0)=h3 at I4 ⊢;have fK:H (h.objs.size + 1)=none:=I.aY.fresh szS;generalize hkS:h.objs.size + 1=kS at *;unfold ksk_rest;refine wpAny_bind (wpAny_rule ?_);rw [List.forIn_toArray];refine wpAny_bind (ksk_fold (λi s'=>VY X ((D,seqObj "list" #[] e1)::aa) σ H kS kf ps i s') (ps.map λa=>Value.ref a.1) 0 _ ⟨_,[],I4,xb,λb u e=>by rw [xj (xh e fK)];exact e,(λ_ z=>nomatch z),rfl⟩ ?step ?done)
 case step=>
  rintro j x s' hx ⟨H',ks,J,hk,ext,hks,ek⟩;rw [xW] at ek;rw [zS] at hx;cases ea:ps[j]? with
  | none=>rw [ea] at hx;cases hx
  | some a=>
   rw [ea] at hx;have hx:Value.ref a.1=x:=Option.some.inj hx;subst hx;refine wpAny_bind (wpAny_attempt (wpAny_mono (turn _ a.1 a.2 s' H' (λp hp=>zc _ hp) (zB ea) J ext) (λv vK he=>?_) λ_ _ hF=>hF.elim));obtain ⟨v',V0,J2,rv,t,rfl,sm,ht⟩:=he;cases rv;have rM:=sm _ _ hk;obtain ⟨z,aC,n,r,hl,e⟩:=J2.uc rM;have lk:ks.length<=j:=by have:=congrArg List.length ek;rw [zA,zA,zZ] at this;omega
   have jl:j < ps.length:=(zC.mp ea).1;have li:aC.length=ks.length:=by rw [<-hl,zA]
   dsimp only;refine wpAny_bind (listUpdate_at e rfl ?_ (by rw [zQ];omega) (by rw [Array.size_push,zQ];omega));have ne:∀ b u,H b=some u->b≠kS:=λb u e=>xh e fK;have J3:Inv X ((D,seqObj "list" #[] e1)::aa) σ (upd V0 kS (.lst ((ks++[(t,kf a.2)]).map λk:Addr×List Int=>V.ref k.1))) { vK with heap:=vK.heap.update kS (Obj.mapSeq (·.push (Value.ref t))),toks:=vK.toks }:=
    J2.Sk (its':=aC++[Value.ref t]) rM e (by simp) (by rw [zI];exact r.append (.cons rfl .nil)) (by rw [zA,zE,yA];omega)
   refine wpAny_pure ⟨rfl,_,ks++[(t,kf a.2)],J3,xb,λb u e=>by rw [xj (ne b u e)];exact sm _ _ (ext b u e),λk TH=>?_,?_⟩
   ·rcases zT.mp TH with h' | h'
    ·have:=sm _ _ (hks k h');rw [xj (cT this rM (by intro z;cases z))];exact this
    ·cases zF.mp h';rw [xj (cT ht rM (by intro z;cases z))];exact ht
   ·rw [xW,zI,ek,List.take_add_one,ea,zI];rfl
 case done=>
  rintro s' ⟨H',ks,J,hk,ext,hks,ek⟩;rw [xW,zA,zn] at ek;obtain ⟨z,aC,n,r,hl,e⟩:=J.uc hk;refine wpAny_bind (listItems_at e rfl ?_);have ei:=iF r;subst ei;have lks:ks.length=ps.length:=by have:=congrArg List.length ek;rw [zA,zA] at this;exact this
  have WZ:=J.pin (D,seqObj "list" #[] e1) (zK _ (.head _));have s0D:X.cP.heap.objs.size<=D:=yB I.sz SH;have kSD:kS≠D:=yQ kS1
  -- S6 end
  have tail:∀ (st:SortSt) (qs:List (Addr×List Int)),(arrOf st).map (·.2)=(qs.map λa=>Value.ref a.1).toArray->failedOf st=none->List.Perm qs ps->qs.Pairwise (λa b=>lx (kf b.2) (kf a.2)=false)->wpAny (model X.prog X.w) A (ksk_tail D false e1 (.ref kS) st) P E s':=λst qs har hf pm so=>by
   have lq:qs.length < 64:=by rw [pm.length_eq];exact X0
   unfold ksk_tail;dsimp only;rw [har,hf];refine wpAny_bind (listUpdate_at e rfl ?_ (by rw [zQ,zA];omega) (zb _));refine wpAny_bind (wpAny_letGo ?_);have s1:=Heap.SameBut.update s'.heap kS (Obj.mapSeq λ_=>(#[]:Array Value));have aD:(s'.heap.update kS (Obj.mapSeq λ_=>(#[]:Array Value))).get? D=some (seqObj "list" #[] e1):=(s1.2 D kSD.symm).trans WZ.1;refine wpAny_bind (seqEpoch_at aD rfl ?_);refine wpAny_bind (listUpdate_at aD rfl ?_ (zb _) (by show (qs.map λa=>Value.ref a.1).toArray.size<=_;rw [zQ,zA];omega));simp only [bne_self_eq_false,za,if_false];have J2:=J.Sk (its':=[]) (f:=λ_=>#[]) (t':=s'.toks) hk e (by simp) (.nil:Vals [] []) (zb _);have J3:Inv X aa σ (upd H' kS (.lst [])) { s' with heap:=s'.heap.update kS (Obj.mapSeq λ_=>(#[]:Array Value)) }:=J2.cY λp hp=>J2.pin p (zK _ (.tail _ hp));obtain ⟨c2,YU⟩:∃ c2,((s'.heap.update kS (Obj.mapSeq λ_=>(#[]:Array Value))).update D (Obj.mapSeq λ_=>(qs.map λa=>Value.ref a.1).toArray)).get? D=some (seqObj "list" (qs.map λa=>Value.ref a.1).toArray c2):=⟨_,get?_update_seq aD _⟩;have hnD:(upd H' kS (.lst [])) D=none:=by rw [xj kSD.symm];exact WZ.2.1
   have J4:Inv X aa σ (upd (upd H' kS (.lst [])) D (.lst (qs.map λa=>V.ref a.1))) { s' with heap:=(s'.heap.update kS (Obj.mapSeq λ_=>(#[]:Array Value))).update D (Obj.mapSeq λ_=>(qs.map λa=>Value.ref a.1).toArray),toks:=s'.toks }:=
    J3.adopt (λb o hb q=>(Heap.get?_update_other _ _ (Ne.symm hb)).trans q) hnD s0D (yQ (zR I.lt SH)) (λx c hc=>zV (zR (I.VQ hc) SH)) (λp hp=>zV (zR (Heap.lt_size (I.pin p hp).1) SH)) YU (fP qs) (by rw [zA];omega)
   refine wpAny_pure (q qs _ _ J4 hnD (λb u e=>?_) pm so);rw [xj (xh e fK)];exact ext b u e
  unfold ksk_end;dsimp only;rw [if_neg (by decide:¬ false=true)];have szi:(ps.map λa=>Value.ref a.1).toArray.size=ps.length:=by rw [zQ,zA]
  by_cases h2:ps.length < 2
  ·have TQ:(ps.map λa=>Value.ref a.1).toArray.size < 2:=by rw [szi];exact h2
   rw [if_pos TQ,if_pos TQ];refine wpAny_bind (wpAny_pure ?_);rw [StateT.run_pure];refine wpAny_bind (wpAny_pure ?_);dsimp only;refine tail _ ps ?_ rfl (List.Perm.refl _) ?_
   ·show ((ks.map λa=>Value.ref a.1).toArray.zip (ps.map λa=>Value.ref a.1).toArray).map (·.2)=_;exact OX (by rw [zA,zA,lks];exact zD _)
   ·match ps,h2 with
    | [],_=>exact .nil
    | [_],_=>exact ya _ _
  ·have TQ:¬ (ps.map λa=>Value.ref a.1).toArray.size < 2:=by rw [szi];exact h2
   rw [if_neg TQ,if_neg TQ];have rowAt:∀ a∈ks,Q6 s'.heap a.1 a.2/\a.2≠[]:=λa ha=>by
    obtain ⟨_,aC,rv,o,e,c,n,d⟩:=J.aY a.1 _ (hks a ha);refine ⟨⟨o,_,n,e,c,d,rv⟩,?_⟩;have:a.2∈ks.map (·.2):=zP.mpr ⟨a,ha,rfl⟩;rw [ek] at this;obtain ⟨b,hb,eb⟩:=zP.mp this;rw [<-eb];exact Z1 b hb
   obtain ⟨fs,kt,lf,hf⟩:=nW rowAt;refine wpAny_bind (kat_kind (T:=.type "int") kt (by omega) (λv hv=>?_) (by decide) ?_)
   ·obtain ⟨i,t,rfl⟩:=hf v hv;exact Looks.now
   have n1:1<=(ps.map λa=>Value.ref a.1).length:=by rw [zA];omega
   have hkl:(ks.map λa=>Value.ref a.1).length=(ps.map λa=>Value.ref a.1).length:=by rw [zA,zA];exact lks
   refine wpAny_bind (wpAny_mono (kat_run (Q:=λMA vK=>vK=s'/\∃ p:Array Nat,arrOf MA=p.map (kas_item ((ks.map λa=>Value.ref a.1).toArray.zip (ps.map λa=>Value.ref a.1).toArray))/\failedOf MA=none/\Pm ps.length p/\Up (λi=>rk (ks.map (·.2)) ((ks.map (·.2)).getD i [])) p ps.length) (G:=λp vK=>vK=s'/\Pm ps.length p/\Up (λi=>rk (ks.map (·.2)) ((ks.map (·.2)).getD i [])) p ps.length) hkl (by rw [zA];omega) (by rw [zA];exact X0) (λp MA vK a1 a2 a3 a4=>⟨a4.1,p,a2,a3,a4.2⟩) ?_) ?_ λ_ _ e=>e)
   ·rw [zA];refine gK.wp (c:=cf λi=>rk (ks.map (·.2)) ((ks.map (·.2)).getD i [])) (λi j C hi hj hC=>?_) (λpp hp=>⟨rfl,hp⟩) _ (ME (f:=λi=>rk (ks.map (·.2)) ((ks.map (·.2)).getD i [])) (by omega));have fm:i < ks.length:=by omega
    have Qw:j < ks.length:=by omega
    obtain ⟨⟨o,items,n,ho,hc,hd,hv⟩,hn⟩:=rowAt ks[i] (zh fm);obtain ⟨⟨o',U8,n',pD,TL,Oi,Tu⟩,Rj⟩:=rowAt ks[j] (zh Qw);unfold kas_ask;have ei:(ks.map λa=>Value.ref a.1).getD i Value.none=.ref ks[i].1:=by simp [fm]
    have ej:(ks.map λa=>Value.ref a.1).getD j Value.none=.ref ks[j].1:=by simp [Qw]
    rw [ei,ej];refine kat_lt ho hd pD Oi (mH hv Tu (by simp) ?_);have e:cf (λi=>rk (ks.map (·.2)) ((ks.map (·.2)).getD i [])) i j=lx ks[i].2 ks[j].2:=by
     unfold cf;have e1:(ks.map (·.2)).getD i []=ks[i].2:=by simp [fm]
     have e2:(ks.map (·.2)).getD j []=ks[j].2:=by simp [Qw]
     simp only [e1,e2];exact ML (zP.mpr ⟨ks[i],zh fm,rfl⟩)
    rw [e] at hC;exact hC
   ·rintro ⟨⟨⟩,MA⟩ vK ⟨rfl,p,har,hfl,pm,up⟩;dsimp only;have pl:p.toList.Perm (List.range ps.length):=by
     have:=pm.toList;simpa using this
    have perm:(p.toList.map λi=>ps.getD i (0,[])).Perm ps:=by
     have:=pl.map λi=>ps.getD i (0,[]);rwa [pX] at this
    refine tail MA (p.toList.map λi=>ps.getD i (0,[])) ?_ hfl perm ?_
    ·rw [kat_snds hkl har,z4];congr 1;refine yM λi hi=>?_;have fm:i < ps.length:=zm.mp (pl.mem_iff.mp hi);simp [fm]
    ·rw [zw];intro i j hi hj ur;simp only [zA,Array.length_toList] at hi hj;simp only [List.getElem_map,Array.getElem_toList];have hn:p.size=ps.length:=pm.size;have key:=up i j (xL ur) (by omega);have a1:p[i] < ps.length:=zm.mp (pl.mem_iff.mp (by simp));have a2:p[j] < ps.length:=zm.mp (pl.mem_iff.mp (by simp));unfold g aZ.at' at key;simp only [hi,hj,getElem?_pos,Option.getD_some] at key;have e0:∀ k (hk:k < ps.length),(ks.map (·.2)).getD k []=kf ps[k].2:=λk hk=>by rw [ek];simp [hk]
     have e1:=e0 p[i] a1;have e2:=e0 p[j] a2;rw [e1,e2] at key;have e3:ps.getD p[i] (0,[])=ps[p[i]]:=by simp [a1]
     have e4:ps.getD p[j] (0,[])=ps[p[j]]:=by simp [a2]
     rw [e3,e4];have:=ML (rs:=ks.map (·.2)) (a:=kf ps[p[j]].2) (b:=kf ps[p[i]].2) (by rw [ek];exact zP.mpr ⟨_,zh a2,rfl⟩);rw [<-this];simp only [decide_eq_false_iff_not];omega
end
end L2
namespace L2
open PySem PySem.Spec PyProof.Rows PySem.W aZ PySem.Calls
noncomputable def Ud (P:Addr)(vZ:Pos)(qual:Str)(ok:List Int->Prop)(kf:List Int->List Int)(te:TE):TE:=fun σ H Q=>te σ H λx H1=>∃ p,∃ ps:List (Addr×List Int),[x]=[V.ref p]/\H1 p=some (.lst (ps.map λa=>V.ref a.1))/\ps.length < 64/\MT P vZ qual H1/\(∀ a∈ps,H1 a.1=some (.tup (a.2.map V.int))/\ok a.2) /\
 ∀ l (qs:List (Addr×List Int)) H2,H1 l=none->Sm.bY P H1 H2->MT P vZ qual H2->H2 l=some (.lst (qs.map λa:Addr×List Int=>V.ref a.1))->List.Perm qs ps->qs.Pairwise (λa b:Addr×List Int=>lx (kf b.2) (kf a.2)=false)->Q (.ref l) H2
section
variable {X:Cx}{e body:Expr}{te:TE}{np kp vZ pos:Pos}{params:Arguments}{scope:Scope}{P c:Addr}{N:List Str}{ok:List Int->Prop}{kf:List Int->List Int}{pn:Str}
theorem vP (hg:Gl X "sorted")(hm:X.mg "sorted" = none)(M9:X.env.code=.ref c)(rN:codeHdIn X.K c P=true)(bm:br X.mg X.base)(Vs:defaultsOf params X.env=([],[]))(We:closureFor scope X.env=pure [])(hr:cJ 3 X.A)
  (S:aA N [pn] scope) (Qy:∀ pm c' rX u,bindArgs (kla_fn "<lambda>" (X.env.qual ++ "<lambda>") params body scope [] pm (.ref c') rX) ⟨[u],[]⟩=pure (List.zip [pn] [u])) (Z1:∀ r,ok r->kf r≠[])
  (ir:∀ f c' A s H,∃ t,PE (iu cR X.prog X.w X.K X.mg X.base N (X.env.qual ++ "<lambda>") scope f (.ref c') A X.stack s H E0).rE body t/\∀ a r,H a=some (.tup (r.map V.int))->ok r->t (start N [.ref a]) H (λv V0=>∃ t,v=.ref t/\aB H V0/\V0 t=some (.tup ((kf r).map V.int))))
  (he:PE X e te) (ns:notStar e=true) :
  PE X (.Call (.Name "sorted" np) [e] [⟨some "key", .Lambda params body scope vZ,kp⟩] pos) (Ud P vZ (X.env.qual ++ "<lambda>") ok kf te):=by
 intro aa s σ H Q I h;have ha:PA X [e] (jw te oX):=xa (xf he xp ns);have line:100<=sizeLine:=by rw [sizeLine_eq];decide
 refine wpAny_Call_Name_kw (fX I hg hm PyProof.Rows.boot_sorted ?_ (by decide) (by decide));refine callWith_kw (bu (ha pos aa s σ H (λvs H1=>∃ p,∃ ps:List (Addr×List Int),vs=[V.ref p]/\H1 p=some (.lst (ps.map λa=>V.ref a.1))/\ps.length < 64/\MT P vZ (X.env.qual ++ "<lambda>") H1/\(∀ a∈ps,H1 a.1=some (.tup (a.2.map V.int))/\ok a.2) /\
  ∀ l (qs:List (Addr×List Int)) H2,H1 l=none->Sm.bY P H1 H2->MT P vZ (X.env.qual ++ "<lambda>") H2->H2 l=some (.lst (qs.map λa:Addr×List Int=>V.ref a.1))->List.Perm qs ps->qs.Pairwise (λa b:Addr×List Int=>lx (kf b.2) (kf a.2)=false)->Q (.ref l) H2) I h)
  λus s1 ⟨vs,H1,I1,r1,q1⟩=>kws_cons ?_) (by rw [kj ns];rfl) (by rw [kj ns];rfl)
 obtain ⟨p,ps,rfl,hp,X0,mt,rows,q⟩:=q1;obtain ⟨u,rfl,ru⟩:=vals1 r1;cases ru;refine Qk I1 mt M9 rN bm Vs We λf c' rX pm H' s' J TL bt YI=>kws_nil ?_;have neP:∀ b u,H1 b=some u->(∀ ys,u≠.jv ys)->b≠P:=λb u e n z=>by
  rcases mt with m | ⟨_,m,_⟩ <;> (rw [z,m] at e;cases e;exact n _ rfl)
 have Wb:=bt _ _ (neP _ _ hp (by intro ys z;cases z)) hp;have Td:∀ a∈ps,H' a.1=some (.tup (a.2.map V.int)):=λa ha=>bt _ _ (neP _ _ (rows a ha).1 (by intro ys z;cases z)) (rows a ha).1;obtain ⟨z,aC,n,r,hl,hpe⟩:=J.uc Wb;have ei:=iF r;subst ei;refine call_function_entry_kw kind_sorted plain_sorted entry_sorted (ksk_s1 _ _) ?_;unfold Builtin.«sorted»;refine wpAny_bind (m:=checkCount "sorted" 1 1 _) (wpAny_pure ?_);refine wpAny_bind (collect_list (vs:=(ps.map λa=>Value.ref a.1)) ⟨_,hpe,rfl,_,rfl⟩ ?_ (by rw [zA];omega));refine wpAny_bind (wpAny_newList ?_ (by rw [zA];omega));have hsz:((s'.heap.push (seqObj "list" #[] 0)).update s'.heap.objs.size (Obj.mapSeq (·++(ps.map λa=>Value.ref a.1).toArray))).objs.size=s'.heap.objs.size + 1:=by
  rw [Heap.size_update,size_push']
 have YQ:(((s'.heap.push (seqObj "list" #[] 0)).update s'.heap.objs.size (Obj.mapSeq (·++(ps.map λa=>Value.ref a.1).toArray))).push (seqObj "list" (ps.map λa=>Value.ref a.1).toArray 0)).get? (s'.heap.objs.size + 1)=some (seqObj "list" (ps.map λa=>Value.ref a.1).toArray 0):=by
  rw [<-hsz];exact Heap.get?_push_size _ rfl
 have keep:∀ b o,s'.heap.get? b=some o->(((s'.heap.push (seqObj "list" #[] 0)).update s'.heap.objs.size (Obj.mapSeq (·++(ps.map λa=>Value.ref a.1).toArray))).push (seqObj "list" (ps.map λa=>Value.ref a.1).toArray 0)).get? b=some o:=λb o q=>by
  have fk:b < s'.heap.objs.size:=Heap.lt_size q;rw [Heap.get?_push_ne _ _ _ (by rw [hsz];exact zV (yZ fk)),Heap.get?_update_ne _ _ _ _ (zV fk),Heap.get?_push_ne _ _ _ (zV fk)];exact q
 show wpAny _ _ _ _ _ { s' with heap:=((s'.heap.push (seqObj "list" #[] 0)).update s'.heap.objs.size (Obj.mapSeq (·++(ps.map λa=>Value.ref a.1).toArray))).push (seqObj "list" (ps.map λa=>Value.ref a.1).toArray 0) };rw [hsz];refine wpAny_bind (wpAny_holding (wpAny_call_entry_kw slot_list_sort ⟨_,YQ,rfl⟩ entry_list_sort ?body (ksk_l1 _ _)));have aag:(f,kla_obj "<lambda>" (X.env.qual ++ "<lambda>") params body scope [] pm c' rX)∈(f,kla_obj "<lambda>" (X.env.qual ++ "<lambda>") params body scope [] pm c' rX)::aa:=.head _;show wpAny (model X.prog X.w) X.A.in1.in1 (Builtin.«list.sort» ⟨[.ref (s'.heap.objs.size + 1)],[(Str.ofString "key", .ref f)]⟩) _ _ _;rw [ksk_t1];refine NQ (kf:=kf) (ps:=ps) J keep (xC _) (by rw [Heap.size_push,hsz];exact xN _) YQ X0 Td (λa ha=>Z1 _ (rows a ha).2) (λiW a rr s2 H2 sub ha J2 ext=>?_) λqs H2 s2 J2 hn ext Tf so=>?_
 ·have hf:=J2.pin _ (zK _ (sub _ aag));have hcr:s2.heap.CodeRec (.ref c') (X.env.qual ++ "<lambda>"):=(J2.aY c' _ (ext _ _ TL)).1;obtain ⟨t,ht,hq⟩:=ir f c' X.A.in1.in1 s2 H2;refine wpAny_call (codeAny_mono (So (k:=0) S hr.in1.in1 J2.SQ.in1.in1 hf.1 hcr (Qy pm c' rX (.ref a)) (vs:=[V.ref a]) rfl (.cons rfl .nil) ⟨t,ht,hq a rr (ext _ _ (Td _ ha)) (rows _ ha).2⟩) λr s3 Sy=>?_);cases r with
  | error e=>exact Sy.elim
  | ok fl=>
   cases fl with
   | ret u=>exact J2.after Sy
   | next=>exact False.elim Sy
   | brk=>exact False.elim Sy
   | cont=>exact False.elim Sy
 ·refine ⟨_,rfl,wpAny_pure ⟨_,rfl,?_⟩⟩;have fr:H' (s'.heap.objs.size + 1)=none:=J.aY.fresh (xC _);have ext':∀ b u,H' b=some u->upd H2 (s'.heap.objs.size + 1) (.lst (qs.map λa=>V.ref a.1)) b=some u:=λb u e=>by rw [xj (xh e fr)];exact ext b u e
  refine ⟨.ref (s'.heap.objs.size + 1),_,J2.cY λp hp=>J2.pin p (zK _ (.tail _ hp)),rfl,q _ qs _ ?_ (λb u n e=>ext' b u (bt b u n e)) ?_ xb Tf so⟩
  ·cases e:H1 (s'.heap.objs.size + 1) with
   | none=>rfl
   | some u=>
    by_cases z:s'.heap.objs.size + 1=P
    ·rcases YI with m | ⟨_,m,_⟩ <;> (rw [<-z,fr] at m;cases m)
    ·rw [bt _ _ z e] at fr;cases fr
  ·rcases YI with m | ⟨c1,m,m2⟩
   ·exact .inl (ext' _ _ m)
   ·exact .inr ⟨c1,ext' _ _ m,ext' _ _ m2⟩
end
end L2
namespace L2
open PySem PySem.Spec PyProof.Rows PySem.W
theorem P7 {K:PySem.W.Frag}{h:Heap}{P:Addr}(X:K.In h)(hP:h.get? P=some (tabObj #[]))(nt:noTabs K=true):K.lookup P=none:=by
 cases e:K.lookup P with
 | none=>rfl
 | some o=>
  have h1:=X P o e;rw [hP] at h1;cases h1;have h2:=yj.mp nt (P,_) (mem_of_lookupK e);exact absurd (show false=true from h2) zO
theorem Oc {P:Program}{w:World}{K:PySem.W.Frag}{mg mb:Str->Option Value}{CX:OR}{k:Nat}{fa a c T:Addr}{fd:FuncData}{x:Str}{sp:Sp}{bG:Shared}{vs:List Value}{ns:List Int}
  (KX:K.In bG.heap) (XA:bG.heap.Ns mainGlobals mg) (hb:bG.heap.Ns builtinsNs mb) (hbb:∀ x:Str,x ≠ "__name__" -> mb x=bootBuiltins x) (aak:bG.heap.NoLimit) (hg:bG.gens=#[])
  (hT:bG.heap.get? T=some (tabObj #[])) (hC:codeHdIn K c T=true) (nt:noTabs K=true) (hbm:∃ bm ob,mg "__builtins__" = some (.ref bm)/\bm≠builtinsNs/\bG.heap.get? bm=some ob/\ob.cls=.type "module" /\ ob.dict=some builtinsNs/\ob.data=.plain)
  (ha:bG.heap.get? a=some { cls:=.type "list", data:=.seq vs.toArray }) (hi:IntsAre vs ns) (hl:ns.length<=sizeLine) (hr:cJ k callerA)
  (F:∀ base:Heap,K.In base->base.Ns mainGlobals mg->br mg base->aV P w K mg base CX k fa fd [x] sp) (Qy:∀ (s:Shared) (u:Value),BindsTo s fd ⟨[u],[]⟩ [(x,u)])
  (um:∀ H:Hp,H T=some (.jv #[])->aL K H a (ns.map V.int)->sp [.ref a] H (λv _=>v=.bl true) λ_ _ _=>False)
  (XZ:∀ H e s',CX [] H bG (λ_ _ _=>False) e s'->False) :
  codeAny (model P w) callerA (.call (.ref fa) ⟨[.ref a],[]⟩) (λr s'=>r=.ok (.ret (.bool true))/\OldK bG.heap s'.heap/\s'.os=bG.os/\AllBare s'.gens) bG:=by
 have rv:=pP hi;have ZZ:=hi.length;have naT:a≠T:=λz=>by rw [z,hT] at ha;cases ha
 have lkT:=P7 KX hT nt;have isT:=((codeHd_of_K KX hC).tab hT).isCodeTable;have core:∀ H:Hp,(∀ b,H b=none\/(b=a/\∃ o xs,H b=some (.oW o (.lst xs)))\/(b=T/\H b=some (.jv #[])))->H T=some (.jv #[])->aL K H a (ns.map V.int)->gP P w H bG.heap->(H a≠none->K.lookup a=none) ->
   codeAny (model P w) callerA (.call (.ref fa) ⟨[.ref a],[]⟩) (λr s'=>r=.ok (.ret (.bool true))/\OldK bG.heap s'.heap/\s'.os=bG.os/\AllBare s'.gens) bG:=by
  intro H hO hTH hS aY hK;have r9:∀ {b:Addr}{o:Obj},bG.heap.get? b=some o->H b=none->(pF bG.heap H).get? b=some o:=λe n=>Qx e n;have noH:∀ {b:Addr}{o:Obj},bG.heap.get? b=some o->(∀ i n,o.data≠.seq i n)->(∀ f,o.data≠.fields f)->H b=none:=λ{b o} e d1 d2=>by
   rcases hO b with q | ⟨rfl,_⟩ | ⟨rfl,_⟩
   ·exact q
   ·rw [ha] at e;cases e;exact absurd rfl (d1 _ _)
   ·rw [hT] at e;cases e;exact absurd rfl (d2 _)
  have YE:∀ {b:Addr}{m:Str->Option Value},bG.heap.Ns b m->(pF bG.heap H).Ns b m:=λ{b m} ⟨o,es,ep,e,d,r⟩=>⟨o,es,ep,r9 e (noH e (λi n z=>by rw [d] at z;cases z) λf z=>by rw [d] at z;cases z),d,r⟩;have hKb:K.In (pF bG.heap H):=λb o e=>r9 (KX b o e) (by
   rcases hO b with q | ⟨rfl,_,_,q⟩ | ⟨rfl,q⟩
   ·exact q
   ·rw [hK (by rw [q];simp)] at e;cases e
   ·rw [lkT] at e;cases e)
  have hM:Mod K mg (pF bG.heap H):=⟨hKb,YE XA,⟨mb,YE hb,hbb⟩,let ⟨mc,h1,h2⟩:=aak;⟨mc,YE h1,h2⟩⟩;have hB:br mg (pF bG.heap H):=by
   obtain ⟨bm,ob,b1,b2,b3,b4,b5,b6⟩:=hbm;refine ⟨bm,ob,b1,b2,λz=>?_,r9 b3 (noH b3 (λi n z=>by rw [b6] at z;cases z) λf z=>by rw [b6] at z;cases z),b4,b5,b6⟩;obtain ⟨o,es,ep,e,d,_⟩:=XA;rw [z,e] at b3;cases b3;rw [b6] at d;cases d
  have e0:oS P w K mg (pF bG.heap H) callerA [] bG H:=⟨rfl,hM,λb o e=>Si e,Nat.le_of_eq (Oh _ _),trivial,λb hb=>absurd (show b∈([]:List Addr) from hb) (by simp),aY,.of_eq hg⟩;refine codeAny_mono ((F _ hKb (YE XA) hB).run callerA [] bG H ⟨[.ref a],[]⟩ [.ref a] [.ref a] _ _ hr e0 (Qy bG (.ref a)) (.cons rfl .nil) (um H hTH hS)) λr s' h=>?_;cases r with
  | error e=>exact (XZ H e s' h).elim
  | ok fl=>
   cases fl with
   | next=>exact False.elim h
   | brk=>exact False.elim h
   | cont=>exact False.elim h
   | ret u=>
    obtain ⟨v,H',os,bare,un,Xz,r',q⟩:=h;have q':v=.bl true:=q;subst q';obtain rfl:u=Value.bool true:=r';have all:∀ b o,bG.heap.get? b=some o->s'.heap.get? b=some o\/(b=T/\∃ ps,s'.heap.get? T=some (tabObj ps)):=λb o e=>by
     rcases hO b with q | ⟨_,ob,xs,z⟩ | ⟨rfl,z⟩
     ·exact .inl (un.keep b o e q (by intro z;exact absurd (show b∈([]:List Addr) from z) (by simp)) (by simp))
     ·have z2:=un.fc b ob _ z;obtain ⟨e1,_⟩:=aY b _ z;obtain ⟨e2,_⟩:=Xz b _ z2;rw [e] at e1;cases e1;exact .inl e2
     ·obtain ⟨more,z2⟩:=un.eY b _ z;have e2:s'.heap.get? b=some _:=Xz b _ z2;exact .inr ⟨rfl,_,e2⟩
    refine ⟨rfl,⟨λb o e=>?_,λb o e=>?_⟩,os,bare⟩
    ·rcases all b o e with q | ⟨rfl,ps,q⟩
     ·exact .inl q
     ·rw [hT] at e;cases e;exact .inr (.inl ⟨isT,rfl,#[],ps,rfl,by rw [Array.empty_append];exact q⟩)
    ·rcases all b o e with q | ⟨rfl,ps,q⟩
     ·exact ⟨_,q⟩
     ·exact ⟨_,q⟩
 cases hk:K.lookup a with
 | some o=>
  have e:=KX a o hk;rw [ha] at e;cases e;refine core (λb=>if b=T then some (.jv #[]) else none) (λb=>?_) (if_pos rfl) (.inr ⟨_,vs.toArray,_,hk,rfl,rfl,rfl,by rw [zQ,ZZ];exact hl,by simpa using rv⟩) (λb u z=>?_) λz=>absurd (if_neg naT) z
  ·by_cases hb:b=T
   ·exact .inr (.inr ⟨hb,if_pos hb⟩)
   ·exact .inl (if_neg hb)
  ·by_cases hb:b=T
   ·have z':=(if_pos hb).symm.trans z;cases z';subst hb;exact hT
   ·have z':=(if_neg hb).symm.trans z;cases z'
 | none=>
  have Zf:(λb=>if b=T then some (HO.jv #[]) else if b=a then some (.oW { cls:=.type "list", data:=.seq vs.toArray } (.lst (ns.map V.int))) else none) a=some (.oW { cls:=.type "list", data:=.seq vs.toArray } (.lst (ns.map V.int))):=(if_neg naT).trans (if_pos rfl);refine core (λb=>if b=T then some (.jv #[]) else if b=a then some (.oW { cls:=.type "list", data:=.seq vs.toArray } (.lst (ns.map V.int))) else none) (λb=>?_) (if_pos rfl) (.inl (.inr ⟨{ cls:=.type "list", data:=.seq vs.toArray },Zf⟩)) (λb u z=>?_) λ_=>hk
  ·by_cases hb:b=T
   ·exact .inr (.inr ⟨hb,if_pos hb⟩)
   ·by_cases kM:b=a
    ·exact .inr (.inl ⟨kM,_,_,(if_neg hb).trans (if_pos kM)⟩)
    ·exact .inl ((if_neg hb).trans (if_neg kM))
  ·by_cases hb:b=T
   ·have z':=(if_pos hb).symm.trans z;cases z';subst hb;exact hT
   ·by_cases kM:b=a
    ·have z':=((if_neg hb).trans (if_pos kM)).symm.trans z;cases z';subst kM;exact ⟨ha,by rw [zA];exact hl,vs,_,rv,ha⟩
    ·have z':=((if_neg hb).trans (if_neg kM)).symm.trans z;cases z'
theorem O0 {l:PySem.W.OpenLaw}{n k:Nat}{q:Program}{loose:List Str}{XP:(Str->Option Value)->Heap->Prop}{YP:World->Heap->Prop}{d:DefRec}{K:Params->PySem.W.Frag}{CX:World->OR}{sp:World->Sp}{x:Str}{T:Addr}
  (hn:l.most=some n) (XC:n<=sizeLine) (XR:d.params.defaults=[]) (hr:cJ k callerA)
  (hY:∀ (w:World) (h:Heap),YP w h->(K w.params).In h/\h.get? T=some (tabObj #[])) (nt:∀ w:World,noTabs (K w.params)=true)
  (F:∀ (w:World) (mg:Str->Option Value) (fa:Addr) (h:Heap),(K w.params).In h->h.Ns mainGlobals mg->mg d.name=some (.ref fa) ->
   ∃ fd:FuncData,(∃ c,codeHdIn (K w.params) c T=true)/\(∀ (s:Shared) (u:Value),BindsTo s fd ⟨[u],[]⟩ [(x,u)]) /\
    ∀ base:Heap,(K w.params).In base->base.Ns mainGlobals mg->br mg base->aV l.prog w (K w.params) mg base (CX w) k fa fd [x] (sp w))
  (um:∀ (w:World) (H:Hp) (a:Addr) (ns:List Int),ns.length<=n->H T=some (.jv #[])->aL (K w.params) H a (ns.map V.int)->sp w [.ref a] H (λv _=>v=.bl true) λ_ _ _=>False)
  (XZ:∀ (w:World) (H:Hp) (s:Shared) (e:Value) (s':Shared),CX w [] H s (λ_ _ _=>False) e s'->False) :
  PySem.W.WalkO q loose XP YP l.row.toRowW d [] (λf vs=>PySem.call f vs):=by
 refine Att.uU hn XR λw cP bG mg mb fa o pm cd doc a vs ns G Y ho hd rN hmg Vl hints hlen hg=>?_;obtain ⟨KX,tX⟩:=hY w _ Y;obtain ⟨fd,⟨c,hC⟩,hb,hF⟩:=F w mg fa _ KX G.T.g hmg;exact Oc KX G.T.g G.T.b G.T.builtins G.T.nolimit hg tX hC (nt w) G.T.bmain Vl hints (yB hlen XC) hr hF hb (λH hO hS=>um w H a ns hlen hO hS) λH e s'=>XZ w H bG e s'
end L2
namespace Sm
open PySem L2 aZ
noncomputable def T7 (ms:List M4)(j:Int):Int:=((ms[j.toNat]?).map (·.t)).getD 0
noncomputable def aa2 (ms:List M4)(k:Nat):List Int:=(numsTo ms k ms.length).map (T7 ms)
section
variable {n k w:Nat}{ms:List M4}{day:Int}
end
noncomputable def nextOf (ts:List (Int×Int))(b:Int)(k:Nat):Int:=match ts[k + 1]? with
 | some q=>q.1
 | none=>b
noncomputable def dS:Str:=(("made_book" : Str) ++ ".<locals>.") ++ "<lambda>"
noncomputable def qU (K:PySem.W.Frag)(T:Addr)(lp:Pos):Sp:=λvs H Q _=>∃ (a:Addr) (ns:List Int),vs=[.ref a]/\aL K H a (ns.map V.int)/\ns.length<=63/\MT T lp dS H/\∀ H',Q (.bl true) H'
noncomputable def M4.norm (r:M4):M4:=⟨min r.lo r.hi,max r.lo r.hi,r.t,r.m⟩
noncomputable def M4.ints (r:M4):List Int:=[r.lo,r.hi,r.t,r.m]
structure Raw (w:Int) (ms:List M4):Prop where
 jY:ms.length<=60
 each:∀ r∈ms,0<=r.lo/\r.lo < w/\0<=r.hi/\r.hi < w/\r.lo≠r.hi/\1<=r.t/\r.t<=1000000000/\1<=r.m/\r.m<=99
 pw:ms.Pairwise λa b=>a.t=b.t->apart a b
theorem apart.symm {a b:M4}(h:apart a b):apart b a:=⟨h.1.symm,h.2.2.1.symm,h.2.1.symm,h.2.2.2.symm⟩
theorem apart.norm {a b:M4}(h:apart a b):apart a.norm b.norm:=by obtain ⟨h1,h2,h3,h4⟩:=h;unfold apart M4.norm;dsimp only;refine ⟨?_,?_,?_,?_⟩ <;> omega
theorem Raw.loose {w:Int}{ms:List M4}(g:Raw w ms):Loose w (ms.map M4.norm):=by refine ⟨by rw [zA];exact g.jY,λr hr=>?_,yO.mpr (g.pw.imp λh e=>(h e).norm)⟩;obtain ⟨x,hx,rfl⟩:=zP.mp hr;obtain ⟨h1,h2,h3,h4,h5,h6,h7,h8,h9⟩:=g.each x hx;unfold M4.norm;dsimp only;exact ⟨by omega,by omega,by omega,h6,h7,h8,h9⟩
theorem Good.raw {w:Int}{ms:List M4}(g:Good w ms):Raw w ms:=by refine ⟨g.jY,λr hr=>?_,g.loose.pw⟩;obtain ⟨h1,h2,h3,h4,h5,h6,h7⟩:=g.each r hr;exact ⟨h1,by omega,by omega,h3,by omega,h4,h5,h6,h7⟩
theorem Good.norm {w:Int}{ms:List M4}(g:Good w ms):ms.map M4.norm=ms:=by
 conv=>rhs;rw [<-List.map_id ms]
 refine yM λr hr=>?_;obtain ⟨h1,h2,h3,h4,h5,h6,h7⟩:=g.each r hr;have e1:min r.lo r.hi=r.lo:=by omega
 have e2:max r.lo r.hi=r.hi:=by omega
 unfold M4.norm;rw [e1,e2];rfl
theorem Good.eq {w w':Int}{ms ns:List M4}(g:Good w ms)(h:Good w' ns)(p:ms.Perm ns):ms=ns:=by refine List.Perm.eq_of_pairwise (le:=λa b=>a.t < b.t\/(a.t=b.t/\a.lo < b.lo/\apart a b)) (λa b _ _ x y=>?_) g.order h.order p;rcases x with x | x <;> rcases y with y | y <;> omega
noncomputable def Ql (l:List Int):List Int:=[l.getD 2 0,l.getD 0 0]
theorem Ss (l:List Int)(_:l.length=4):Ql l≠[]:=by intro h;cases h
theorem lx2 {a b c d:Int}(h:lx [a,b] [c,d]=false):c < a\/(c=a/\d<=b):=by
 by_cases e:a=c
 ·subst e;by_cases e2:b=d
  ·subst e2;exact .inr ⟨rfl,zp _⟩
  ·simp [lx,e2] at h;exact .inr ⟨rfl,h⟩
 ·simp [lx,e] at h;omega
theorem LV {fs:List (Addr×M4)}{qs:List (Addr×List Int)}(p:qs.Perm (fs.map λa=>(a.1,a.2.ints)))(s:qs.Pairwise λa b=>lx (Ql b.2) (Ql a.2)=false) :
  ∃ rs:List (Addr×M4),rs.Perm fs/\(rs.Pairwise λa b=>a.2.t < b.2.t\/(a.2.t=b.2.t/\a.2.lo<=b.2.lo))/\qs=rs.map λa=>(a.1,a.2.ints):=by
 have back:∀ x∈qs,((x.1,(⟨x.2.getD 0 0,x.2.getD 1 0,x.2.getD 2 0,x.2.getD 3 0⟩:M4).ints):Addr×List Int)=x:=λx hx=>by
  obtain ⟨y,hy,rfl⟩:=zP.mp (p.mem_iff.mp hx);rfl
 have e:qs=(qs.map λx:Addr×List Int=>((x.1,(⟨x.2.getD 0 0,x.2.getD 1 0,x.2.getD 2 0,x.2.getD 3 0⟩:M4)):Addr×M4)).map λa=>(a.1,a.2.ints):=by
  rw [z4]
  conv=>lhs;rw [<-List.map_id qs]
  exact yM λx hx=>(back x hx).symm
 refine ⟨qs.map λx:Addr×List Int=>((x.1,(⟨x.2.getD 0 0,x.2.getD 1 0,x.2.getD 2 0,x.2.getD 3 0⟩:M4)):Addr×M4),?_,?_,e⟩
 ·have:=p.map λx:Addr×List Int=>((x.1,(⟨x.2.getD 0 0,x.2.getD 1 0,x.2.getD 2 0,x.2.getD 3 0⟩:M4)):Addr×M4);rw [z4] at this;refine this.trans ?_;have e2:(fs.map ((λx:Addr×List Int=>((x.1,(⟨x.2.getD 0 0,x.2.getD 1 0,x.2.getD 2 0,x.2.getD 3 0⟩:M4)):Addr×M4)) ∘ λa:Addr×M4=>(a.1,a.2.ints)))=fs:=by
   conv=>rhs;rw [<-List.map_id fs]
   exact yM λ_ _=>rfl
  rw [e2]
 ·refine yO.mpr (s.imp λ{a b} h=>?_);dsimp only;exact lx2 h
theorem Loose.good2 {w:Int}{fs qs:List (Addr×M4)}(g:Loose w (fs.map (·.2)))(p:qs.Perm fs)(s:qs.Pairwise λa b=>a.2.t < b.2.t\/(a.2.t=b.2.t/\a.2.lo<=b.2.lo)):Good w (qs.map (·.2)):=by
 have pm:=p.map (·.2);refine ⟨by rw [pm.length_eq];exact g.jY,λr hr=>g.each r (pm.mem_iff.mp hr),?_⟩;have ap:(qs.map (·.2)).Pairwise λa b=>a.t=b.t->apart a b:=(List.Perm.pairwise_iff (λ{x y} h e=>(h e.symm).symm) pm).mpr g.pw;refine yO.mpr ((s.and (yO.mp ap)).imp ?_);rintro a b ⟨h | ⟨h1,h2⟩,k⟩
 ·exact .inl h
 ·have:=k h1;exact .inr ⟨h1,by have:=this.1;omega,this⟩
noncomputable def vF:Sp:=λvs H Q _=>∃ p af,vs=[.ref p]/\H p=some (.lst (List.map V.int af))/\1<=af.length/\af.length<=12/\(∀ r∈af,(0:Int)<=r/\r<=99)/\∀ H',aB H H'->Q (.bl true) H'
noncomputable def Uu:Sp:=λvs H Q _=>∃ t,∃ r:M4,vs=[.ref t]/\H t=some (.tup r.vs)/\∀ t' H',aB H H'->H' t'=some (.tup r.norm.vs)->Q (.ref t') H'
noncomputable def Ut (T:Addr)(lp:Pos):Sp:=λvs H Q _=>∃ pr pm af fs,vs=[.ref pr,.ref pm]/\H pr=some (.lst (List.map V.int af))/\1<=af.length/\af.length<=12/\(∀ r∈af,(0:Int)<=r/\r<=99)/\jn H pm fs/\Raw af.length (fs.map (·.2))/\MT T lp dS H /\
 ∀ b tr tm ps H',bY T H H'->MT T lp dS H'->aN H' b af tr tm ps->Good af.length (ps.map (·.2))->(ps.map (·.2)).Perm (fs.map λa=>a.2.norm)->Q (.ref b) H'
end Sm
namespace L2
open PySem
theorem MT.same {P:Addr}{pos:Pos}{qual:Str}{H H':Hp}(m:MT P pos qual H)(s:aB H H'):MT P pos qual H':=by
 rcases m with m | ⟨c,m,m2⟩
 ·exact .inl (s _ _ m)
 ·exact .inr ⟨c,s _ _ m,s _ _ m2⟩
end L2
namespace Sm
open PySem L2 aZ
theorem Sq {K:PySem.W.Frag}{H:Hp}{a:Addr}{r:List Int}(h:H a=some (.tup (r.map V.int)))(ho:r.length=4) :
  ∃ x,cD K H a x/\∃ y,mD x 2=some y/\∃ x,cD K H a x/\∃ z,mD x 0=some z/\2<=sizeLine/\∀ p:Addr,H p=none->aB H (upd H p (HO.tup [y,z]))/\upd H p (HO.tup [y,z]) p=some (HO.tup (List.map V.int (Ql r))):=
 match r,ho with
 | [_,_,_,_],_=>⟨_,cD.of h,_,rfl,_,cD.of h,_,rfl,by rw [sizeLine_eq];decide,λp hp=>⟨xi hp,xb⟩⟩
end Sm
namespace L2
open PySem
theorem MT.go {P p:Addr}{pos:Pos}{qual:Str}{H H':Hp}(m:MT P pos qual H)(pu:Sm.bU H p)(g:Sm.Go p H H'):MT P pos qual H':=by
 obtain ⟨x,y,z,e⟩:=pu;rcases m with m | ⟨c,m,m2⟩
 ·exact .inl (g.1 _ _ (cT m e (by intro z;cases z)) m)
 ·exact .inr ⟨c,g.1 _ _ (cT m e (by intro z;cases z)) m,g.1 _ _ (cT m2 e (by intro z;cases z)) m2⟩
theorem MT.put {P l:Addr}{pos:Pos}{qual:Str}{H:Hp}{xs:List V}{o:HO}(m:MT P pos qual H)(e:H l=some (.lst xs)):MT P pos qual (upd H l o):=by
 rcases m with m | ⟨c,m,m2⟩
 ·exact .inl (by rw [xj (cT m e (by intro z;cases z))];exact m)
 ·exact .inr ⟨c,by rw [xj (cT m e (by intro z;cases z))];exact m,by rw [xj (cT m2 e (by intro z;cases z))];exact m2⟩
end L2
namespace Sm
open PySem L2 aZ
theorem Good.sub {w:Int}{ms ns:List M4}(g:Good w ms)(h:ns.Sublist ms):Good w ns:=⟨yB h.length_le g.jY,λr hr=>g.each r (h.subset hr),g.order.sublist h⟩
theorem MT.fz {T:Addr}{lp:Pos}{q:Str}{H H':Hp}(m:MT T lp q H)(b:bY T H H'):bV H H':=λx u e=>b x _ (λz=>by
 rcases m with m | ⟨_,m,_⟩ <;> (rw [z,m] at e;cases e)) e
theorem MT.keep {T:Addr}{lp:Pos}{q:Str}{H H':Hp}(m:MT T lp q H)(b:bY T H H'){x:Addr}{u:HO}(e:H x=some u)(n:∀ ys,u≠.jv ys):H' x=some u:=b x u (λz=>by
 rcases m with m | ⟨_,m,_⟩ <;> (rw [z,m] at e;cases e;exact n _ rfl)) e
theorem MT.WY {T p:Addr}{lp:Pos}{q:Str}{H H':Hp}(m:MT T lp q H)(b:bY T H H')(pu:bU H p):bU H' p:=by obtain ⟨x,y,z,e⟩:=pu;exact ⟨x,y,z,MT.keep m b e (by intro ys z;cases z)⟩
theorem MT.seq {T:Addr}{lp:Pos}{q:Str}{K:PySem.W.Frag}{H H':Hp}{a:Addr}{xs:List V}(m:MT T lp q H)(b:bY T H H')(h:aL K H a xs):aL K H' a xs:=by
 rcases h with (h | ⟨o,h⟩) | h
 ·exact .inl (.inl (MT.keep m b h (by intro ys z;cases z)))
 ·exact .inl (.inr ⟨o,MT.keep m b h (by intro ys z;cases z)⟩)
 ·exact .inr h
end Sm
namespace L2
open PySem PySem.Spec PyProof.Rows
section
variable {K:PySem.W.Frag}{a:Addr}{xs:List V}{n:Nat}{caps:List Nat}{g:TG}{tc:TT}{te:TE}{σ:St}{H:Hp}{Qf:Addr->Hp->List V->Prop}
theorem oF (Pv:Nat->St->List V->Hp->Prop)(h0:Pv 0 (d9 n caps σ) [] H)(hn:xs.length<=1000)(hl:∀ i τ acc H,Pv i τ acc H->acc.length<=i/\aL K H a xs)
  (hs:∀ i x q τ acc H (C:St->List V->Hp->Prop),xs[i]?=some x->H q=none->Pv i τ acc H->(∀ τ acc H,Pv (i + 1) τ acc H->C τ acc H)->g (.ref q) τ (upd H q (.tup [.int i,x])) fun bT H2=>tc bT H2 λb H3=>if b=true then te bT H3 λy H4=>C bT (acc++[y]) H4 else C bT acc H3)
  (hd:∀ τ acc H,Pv xs.length τ acc H->∀ p,H p=none->Qf p H acc) :
  ∃ W:Nat->Nat->St->List V->Hp->Prop,(∃ m,W 0 m (d9 n caps σ) [] H)/\∀ i m τ acc H,W i m τ acc H ->
   ((OI K a).stop i H/\acc.length<=sizeLine/\∀ p,H p=none->Qf p H acc) \/
   ((OI K a).go i H/\acc.length < sizeLine/\∀ x H',(OI K a).sM i H x H'->g x τ H' fun bT H2=>tc bT H2 λb H3=>if b=true then te bT H3 λy H4=>∃ m',m' < m/\W (i + 1) m' bT (acc++[y]) H4 else ∃ m',m' < m/\W (i + 1) m' bT acc H3):=
 jR (J:=OI K a) Pv xs.length h0 hn (λi τ acc H p=>(hl i τ acc H p).1) (λi τ acc H hi p=>⟨xs,xs[i],(hl i τ acc H p).2,by simp [hi]⟩) (fun τ acc H p=>⟨xs,(hl _ τ acc H p).2,zD _⟩)
  (λi τ acc H C hi p c x H' y=>by obtain ⟨q,x',hq,e1,e2,y⟩:=y;subst e1;subst e2;exact hs i x' q τ acc _ C (y xs (hl i τ acc _ p).2) hq p c) hd
end
end L2
namespace Sm
open PySem L2 aZ
noncomputable abbrev Mk:=Nat->Nat
noncomputable def NJ (T:Addr)(lp:Pos):Sp:=λvs H Q _=>∃ b,∃ n:Nat,∃ af tr tm ps,vs=[.ref b,.int (n:Int)]/\aN H b af tr tm ps/\n < ps.length/\1<=af.length/\af.length<=12/\(∀ r∈af,(0:Int)<=r/\r<=99)/\Good af.length (ps.map (·.2))/\MT T lp dS H /\
 ∀ b' lY lZ fF H',bY T H H'->MT T lp dS H'->aN H' b' af lY lZ fF->fF.map (·.2)=(ps.map (·.2)).eraseIdx n->Q (.ref b') H'
structure L4 where
 s:Nat
 w:Nat
 a:Int
 z:Int
noncomputable def Mt (H:Hp)(n:Nat)(x:Addr×L4):Prop:=dY H x.1 n x.2.s x.2.w x.2.a x.2.z
noncomputable def dX (H:Hp)(l:Addr)(n:Nat)(ls:List (Addr×L4)):Prop:=H l=some (.lst (ls.map λx=>V.ref x.1))/\∀ x∈ls,Mt H n x
theorem Mt.aS {H H':Hp}{n:Nat}{x:Addr×L4}(h:Mt H n x)(t:bV H H'):Mt H' n x:=⟨t _ _ h.1,h.2⟩
noncomputable def aH (ms:List M4)(x:L4):Bool:=cK (fwd ms (aI x.s x.a) x.w) x.z
noncomputable def bg (ms:List M4)(n:Nat)(x:L4):Bool:=aH ms x && !aH (ms.eraseIdx n) x
noncomputable def pick (f:L4->Bool)(ls:List L4):Nat->List Int
 | 0=>[]
 | i + 1=>pick f ls i++(match ls[i]? with | some x=>if f x then [(i:Int)] else [] | none=>[])
theorem dQ (f:L4->Bool)(ls:List L4):∀ i,(pick f ls i).length<=i
 | 0=>zD _
 | i + 1=>by
  have:=dQ f ls i;unfold pick;rw [zE];cases ls[i]? with
  | none=>show _ + 0<=_;omega
  | some x=>
   dsimp only;split
   ·show _ + 1<=_;omega
   ·show _ + 0<=_;omega
theorem gX {f:L4->Bool}{ls:List L4}{i:Nat}{x:L4}(h:ls[i]?=some x)(e:f x=true):pick f ls (i + 1)=pick f ls i++[(i:Int)]:=by
 conv=>lhs;unfold pick
 rw [h];dsimp only;rw [if_pos e]
theorem iI {f:L4->Bool}{ls:List L4}{i:Nat}{x:L4}(h:ls[i]?=some x)(e:f x=false):pick f ls (i + 1)=pick f ls i:=by
 conv=>lhs;unfold pick
 rw [h];dsimp only;rw [if_neg (by rw [e];exact zO),zq]
noncomputable def Pf:Sp:=λvs H Q _=>∃ b c x af tr tm ps lY lZ fF n,vs=[.ref b,.ref c,.ref x.1]/\aN H b af tr tm ps/\aN H c af lY lZ fF/\af.length<=1000/\Good af.length (ps.map (·.2))/\Good af.length (fF.map (·.2))/\Mt H af.length x/\fF.map (·.2)=(ps.map (·.2)).eraseIdx n /\
 ∀ H',aB H H'->Q (.bl (bg (ps.map (·.2)) n x.2)) H'
noncomputable def Uv (T:Addr)(lp:Pos):Sp:=λvs H Q _=>∃ b l,∃ n:Nat,∃ af tr tm ps ls,vs=[.ref b,.ref l,.int (n:Int)]/\aN H b af tr tm ps/\n < ps.length/\1<=af.length/\af.length<=12/\(∀ r∈af,(0:Int)<=r/\r<=99)/\Good af.length (ps.map (·.2))/\dX H l af.length ls/\ls.length<=100/\MT T lp dS H /\
 ∀ lf H',bY T H H'->MT T lp dS H'->H lf=none->H' lf=some (.lst (List.map V.int (pick (bg (ps.map (·.2)) n) (ls.map (·.2)) ls.length)))->Q (.ref lf) H'
theorem Ov {α β:Type}(f:α->β)(l:List α)(n:Nat):(l.eraseIdx n).map f=(l.map f).eraseIdx n:=by rw [List.eraseIdx_eq_take_drop_succ,List.eraseIdx_eq_take_drop_succ,zI,List.map_take,List.map_drop]
theorem lR {α:Type}{l:List α}{i n:Nat}{r:α}(h:l[i]?=some r)(e:i≠n):(l.take (i + 1)).eraseIdx n=(l.take i).eraseIdx n++[r]:=by
 have hi:i < l.length:=(zC.mp h).1;rw [wj h,List.eraseIdx_append];split
 ·rfl
 ·rename_i hn;rw [zZ] at hn;have:n - (l.take i).length≠0:=by rw [zZ];omega
  rw [yD (by show 1<=_;omega),yD (by rw [zZ];omega)]
theorem pG {α:Type}{l:List α}{i:Nat}{r:α}(h:l[i]?=some r):(l.take (i + 1)).eraseIdx i=(l.take i).eraseIdx i:=by have hi:i < l.length:=(zC.mp h).1;rw [wj h,List.eraseIdx_append_of_length_le (by rw [zZ];omega)];rw [zZ,show i - min i l.length=0 by omega,yD (l:=l.take i) (by rw [zZ];omega)];simp
theorem dX.same {H H':Hp}{l:Addr}{n:Nat}{ls:List (Addr×L4)}(h:dX H l n ls)(s:aB H H'):dX H' l n ls:=⟨s _ _ h.1,λx hx=>(h.2 x hx).aS (bV.same s)⟩
end Sm
namespace L2
open PySem PySem.Spec PyProof.Rows
section
variable {P:Program}{w:World}{H H':Hp}{h:Heap}{a:Addr}{o:HO}
theorem bK.has (x:bK P w H h a o):∃ u,h.get? a=some u:=by
 cases o with
 | lst xs=>obtain ⟨_,_,_,_,e⟩:=x;exact ⟨_,e⟩
 | tup xs=>obtain ⟨_,_,_,u,e,_⟩:=x;exact ⟨u,e⟩
 | dK aF=>obtain ⟨_,_,_,_,u,_,_,e,_⟩:=x;exact ⟨u,e⟩
 | dT aF=>obtain ⟨_,_,_,_,u,_,_,e,_⟩:=x;exact ⟨u,e⟩
 | set S n=>obtain ⟨u,_,_,_,e,_⟩:=x;exact ⟨u,e⟩
 | ins C dx fs=>obtain ⟨_,_,_,e,_⟩:=x;exact ⟨_,e⟩
 | own y=>exact x
 | xd fs=>obtain ⟨_,⟨u,_,_,e,_⟩,_⟩:=x;exact ⟨u,e⟩
 | WT lo hi=>obtain ⟨_,_,_,e⟩:=x;exact ⟨_,e⟩
 | oW ob u=>obtain ⟨e,_⟩:=x;exact ⟨_,e⟩
 | jv ps=>exact ⟨_,(show h.get? a=some _ from x)⟩
 | met f y=>exact ⟨_,(show h.get? a=some _ from x)⟩
 | ext φ=>exact x.2.1
end
structure XL (P:Program) (w:World) (l:List Env) (H:Hp) (s:Shared) (H':Hp) (B:Heap) (s':Shared):Prop where
 os:s'.os=s.os
 bare:AllBare s'.gens
 qg:∀ b o,s.heap.get? b=some o->H b=none->b ∉ mq l->B.get? b=some o
 allB:∀ b o,s.heap.get? b=some o->b ∉ mq l->∃ o',B.get? b=some o'
 NB:∀ b u,H' b=some u->∃ o,B.get? b=some o
 VB:∀ b o,s.heap.get? b=some o->b∈mq l->∃ sl,s'.heap.get? b=some { o with slots:=sl }
 free:∀ b o,s.heap.get? b=some o->H b=none->H' b=none
 aS:∀ b xs,H b=some (.tup xs)->H' b=some (.tup xs)
 fc:∀ b o u,H b=some (.oW o u)->H' b=some (.oW o u)
 eY:∀ b ps,H b=some (.jv ps)->∃ more,H' b=some (.jv (ps++more))
 aY:gP P w H' s'.heap
 stays:B.StaysIn s'.heap
section
variable {P:Program}{w:World}{l:List Env}{H H':Hp}{s s':Shared}{B base:Heap}
theorem XL.un (x:XL P w l H s H' B s'):Un (mq l) [] H H' s.heap s'.heap where
 keep:=λb o e n hb _=>x.stays _ _ (x.qg b o e n hb)
 slot:=λb o e n hb _=>x.VB b o e hb
 free:=λb o e n _=>x.free b o e n
 there:=λb o e _=>by
  by_cases hb:b∈mq l
  ·obtain ⟨sl,q⟩:=x.VB b o e hb;exact ⟨_,q⟩
  ·obtain ⟨o',q⟩:=x.allB b o e hb;exact ⟨o',x.stays _ _ q⟩
 aS:=x.aS
 fc:=x.fc
 eY:=x.eY
theorem XL.step {h2:Heap}(x:XL P w l H s H' B s')(ff:s.heap.FunFrames base l)(k:B.StaysIn h2)(u:s'.heap.UpToSlots h2):XL P w l H s H' B { s' with heap:=h2 } where
 os:=x.os
 bare:=x.bare
 qg:=x.qg
 allB:=x.allB
 NB:=x.NB
 VB:=λb o e hb=>by
  obtain ⟨sl,q⟩:=x.VB b o e hb;obtain ⟨_,o1,e1,nf⟩:=ff.mem hb;rw [e] at e1;cases e1;obtain ⟨Zx,q2⟩:=u b _ q nf;exact ⟨Zx,q2⟩
 free:=x.free
 aS:=x.aS
 fc:=x.fc
 eY:=x.eY
 aY:=λa o e=>by
  have st:∀ b v,H' b=some v->∀ ob,s'.heap.get? b=some ob->h2.get? b=some ob:=λb v hv ob q=>by
   obtain ⟨o1,e1⟩:=x.NB b v hv;have z:=x.stays _ _ e1;rw [q] at z;cases z;exact k _ _ e1
  refine (x.aY a o e).dJ (λb v hb q=>?_) (λ_ q=>q) λ_ _ q=>q;rcases hb with rfl | hb
  ·exact st _ _ e _ q
  ·exact st _ _ hb _ q
 stays:=k
end
noncomputable def Rp (h B:Heap)(e:Addr)(cls fl:Value):Prop:=∃ oe vs T oT ts,h.get? e=some oe/\oe.cls=cls/\oe.dict=none/\oe.data=.fields vs/\vs[1]?=some (Value.ref T)/\B.get? T=none/\T≠e/\h.get? T=some oT/\oT.data=.fields ts/\ts[3]?=some fl
noncomputable def MdD (h:Heap)(e:Addr)(cls:Value):Prop:=∃ oe vs,h.get? e=some oe/\oe.cls=cls/\oe.dict=none/\oe.data=.fields vs/\vs[1]?=some Value.none
noncomputable def vc (P:Program)(w:World):OR:=λl H s E e s'=>∃ a cls H' B,e=Value.ref a/\XL P w l H s H' B s'/\B.get? a=none/\s'.heap.FunFrames B l/\Rp s'.heap B a cls Value.none/\E cls none H'
theorem Ti {P:Program}{w:World}{X:Cx}:Passes (vc P w) X E0:=λ_ _ _ _ _ _ _ ⟨_,_,_,_,_,_,_,_,_,q⟩=>q.elim
noncomputable def V1 (B:Heap)(env:Env)(outer:List Env)(a:Addr)(cls:Value)(h:Heap):Prop:=
 B.get? a=none/\h.FunFrames B (env::outer)/\(MdD h a cls\/Rp h B a cls Value.none\/∃ L,env.frame=some L/\Rp h B a cls (rawInt L))
noncomputable def WX (X:Cx)(E:XK):Value->Shared->Prop:=λe s'=>(X.A.frames=some (X.env::X.outer)/\X.env.frame=some X.env.locals/\X.cP.heap.FunFrames X.base X.outer)/\∃ a cls H' B,e=Value.ref a/\XL X.prog X.w X.outer X.OJ X.cP H' B s'/\V1 B X.env X.outer a cls s'.heap/\E cls none H'
noncomputable abbrev Cx.exc (X:Cx)(E:XK):Cx:=X.iP (WX X E)
theorem MM {h B:Heap}{T:Addr}{oT:Obj}{ts:Array Value}(hT:h.get? T=some oT)(uv:oT.data=.fields ts):∀ b o,h.get? b=some o->(∀ vs,o.data≠.fields vs)->b≠T:=λb o e nf z=>by
 subst z;rw [hT] at e;cases e;exact nf _ uv
theorem LU {g B:Heap}{e:Addr}{oe:Obj}{vs ts:Array Value}{fl:Value}(he:g.get? e=some oe)(u9:oe.dict=none)(hd:oe.data=.fields vs)(sz:1 < vs.size)(kb:B.StaysIn g)(h3:ts[3]?=some fl) :
  (∀ b o,b≠e->g.get? b=some o->((g.push { cls:=.type "traceback", dict:=none,data:=.fields ts }).update e (Obj.mapFields (·.setIfInBounds 1 (Value.ref g.objs.size)))).get? b=some o) /\
  Rp ((g.push { cls:=.type "traceback", dict:=none,data:=.fields ts }).update e (Obj.mapFields (·.setIfInBounds 1 (Value.ref g.objs.size)))) B e oe.cls fl:=by
 have XQ:=Heap.get?_push_of_some (h:=g) { cls:=.type "traceback", dict:=none,data:=.fields ts } he;have ne:g.objs.size≠e:=λz=>absurd (Heap.lt_size he) (by rw [z];exact z6 _);have hd3:=Obj.data_mapFields hd (·.setIfInBounds 1 (Value.ref g.objs.size));refine ⟨λb o nb eb=>?_,_,_,g.objs.size,{ cls:=.type "traceback", dict:=none,data:=.fields ts },ts,Heap.get?_update_self _ XQ (Obj.isFreed_of_fields hd3),Obj.cls_mapFields _ _,?_,hd3,by simp [sz],kb.fresh,ne,?_,rfl,h3⟩
 ·rw [Heap.get?_update_other _ _ (Ne.symm nb)];exact Heap.get?_push_of_some _ eb
 ·obtain ⟨c0,d0,dt0,sl0⟩:=oe;cases dt0 <;> first | exact u9 | cases hd
 ·rw [Heap.get?_update_other _ _ (Ne.symm ne)];exact Heap.get?_push_size g rfl
section
variable {M:Model}{A:Around}{Ex:Value->Shared->Prop}{s:Shared}{B:Heap}{env:Env}{outer:List Env}{a L:Addr}{cls:Value}{Q:Unit->Shared->Prop}
theorem qw {oe:Obj}{vs:Array Value}{head:Value}{hn:Bool}(Vq:A.frames=some (env::outer))(hf:env.frame=some L)(hk:B.StaysIn s.heap)(hl:s.heap.FunFrames B (env::outer))(nb:B.get? a=none)(he:s.heap.get? a=some oe)(u9:oe.dict=none)(hd:oe.data=.fields vs)(sz:1 < vs.size)
  (q:∀ h',B.StaysIn h'->s.heap.UpToSlots h'->h'.FunFrames B (env::outer)->Rp h' B a oe.cls (rawInt L)->Q () { s with heap:=h' }) :
  wpAny M A (do let v <- frameOf env;let pl <- entryPlaceOf L hn;let b <- EntryCells.newEntry head v .none (rawInt L) .none pl;setField (.ref a) 1 b) Q Ex s:=by
 have nf:a ∉ (env::outer).filterMap (·.frame):=λhm=>by
  obtain ⟨_,o,ho,z⟩:=hl.mem hm;rw [he] at ho;cases ho;exact z vs hd
 refine wpAny_bind (wpAny_frameOf_fun Vq hl hf λg sl=>wpAny_bind (wpAny_entryPlaceOf λpl ip=>?_));unfold EntryCells.newEntry newFields;refine wpAny_bind (wpAny_newObj_type ?_ (ip.sizeOk5 _ _ _ _ _));have eg:g.get? a=some oe:=(sl.2.1 a nf).trans he;have kg:B.StaysIn g:=λb o e=>(sl.2.1 b λhm=>by rw [(hl.mem hm).1] at e;cases e).trans (hk b o e);refine wpAny_setField (Heap.get?_push_of_some _ eg) hd sz ?_;have y:=LU (B:=B) (fl:=rawInt L) (ts:=([head,Value.ref L,Value.none,rawInt L,Value.none]++(if pl.isEmpty then List.replicate 6 Value.none else pl)).toArray) eg u9 hd sz kg (by first | (simp;done) | (rcases ip with rfl | ⟨_,_,_,_,_,_,_,rfl⟩ <;> simp));have VD:=MM (B:=B) he hd;refine q _ (λb o e=>y.1 b o (λz=>by rw [z,nb] at e;cases e) (kg b o e)) (λb o e nf=>?_) (hl.of_keeps λb o e nf=>?_) y.2
 ·obtain ⟨s2,e2⟩:=sl.2.2 b o e;exact ⟨s2,y.1 b _ (VD b o e nf) e2⟩
 ·obtain ⟨s2,e2⟩:=sl.2.2 b o e;exact ⟨_,y.1 b _ (VD b o e nf) e2,rfl⟩
theorem pT {B:Heap}{h:Heap}{cls fl SM:Value}{oe oT:Obj}{vs ts:Array Value}{T:Addr}(he:h.get? a=some oe)(hc:oe.cls=cls)(u9:oe.dict=none)(hd:oe.data=.fields vs)(h1:vs[1]?=some (Value.ref T))(TF:B.get? T=none)(TN:T≠a)(hT:h.get? T=some oT)(uv:oT.data=.fields ts)(sz:3 < ts.size)(hk:B.StaysIn h)(hl:h.FunFrames B (env::outer)) :
  B.StaysIn (h.update T (Obj.mapFields (·.setIfInBounds 3 SM)))/\h.UpToSlots (h.update T (Obj.mapFields (·.setIfInBounds 3 SM)))/\(h.update T (Obj.mapFields (·.setIfInBounds 3 SM))).FunFrames B (env::outer)/\Rp (h.update T (Obj.mapFields (·.setIfInBounds 3 SM))) B a cls SM/\(h.update T (Obj.mapFields (·.setIfInBounds 3 SM))).get? a=some oe:=by
 have VD:∀ b,b≠T->(h.update T (Obj.mapFields (·.setIfInBounds 3 SM))).get? b=h.get? b:=λb hb=>Heap.get?_update_other _ _ (Ne.symm hb);have W9:=MM (B:=B) hT uv;have ea:=(VD a (Ne.symm TN)).trans he;exact ⟨λb o e=>(VD b (λz=>by subst z;rw [TF] at e;cases e)).trans (hk _ _ e),λb o e nf=>⟨o.slots,(VD b (W9 b o e nf)).trans e⟩,hl.of_keeps λb o e nf=>⟨o,(VD b (W9 b o e nf)).trans e,rfl⟩,
  ⟨oe,vs,T,_,_,ea,hc,u9,hd,h1,TF,TN,Heap.get?_update_self _ hT (Obj.isFreed_of_fields (Obj.data_mapFields uv _)),Obj.data_mapFields uv _,by simp [sz]⟩,ea⟩
theorem nM (Vq:A.frames=some (env::outer))(hf:env.frame=some L)(hk:B.StaysIn s.heap)(x:V1 B env outer a cls s.heap)
  (q:∀ h',B.StaysIn h'->s.heap.UpToSlots h'->h'.FunFrames B (env::outer)->Rp h' B a cls (rawInt L)->Q () { s with heap:=h' }):wpAny M A (noteFrame (.ref a) env) Q Ex s:=by
 obtain ⟨hn,hl,⟨oe,vs,he,hc,u9,hd,h1⟩ | ⟨oe,vs,T,oT,ts,he,hc,u9,hd,h1,TF,TN,hT,uv,h3⟩ | ⟨L',hL,ht⟩⟩:=x
 ·subst hc;unfold noteFrame;rw [hf];dsimp only;refine wpAny_bind (wpAny_field (x:=_) he hd h1 ?_);rw [if_neg (by decide)];exact qw Vq hf hk hl hn he u9 hd (Array.getElem?_eq_some_iff.mp h1).1 q
 ·have sz:3 < ts.size:=(Array.getElem?_eq_some_iff.mp h3).1;obtain ⟨k2,u2,l2,_,e2⟩:=pT (fl:=Value.none) (SM:=Value.none) he hc u9 hd h1 TF TN hT uv sz hk hl;unfold noteFrame;rw [hf];dsimp only;refine wpAny_bind (wpAny_field (x:=_) he hd h1 ?_);rw [if_pos (by simp)];refine wpAny_bind (wpAny_field (x:=_) hT uv h3 ?_);rw [if_neg (by simp [rawInt])];refine wpAny_bind (wpAny_setField hT uv sz ?_);subst hc;exact qw Vq hf k2 l2 hn e2 u9 hd (Array.getElem?_eq_some_iff.mp h1).1 λh' y1 y2 y3 y4=>q h' y1 (u2.trans y2) y3 y4
 ·cases hL.symm.trans hf;obtain ⟨oe,vs,T,oT,ts,he,hc,u9,hd,h1,TF,TN,hT,uv,h3⟩:=id ht;unfold noteFrame;rw [hf];dsimp only;refine wpAny_bind (wpAny_field (x:=_) he hd h1 ?_);rw [if_pos (by simp)];refine wpAny_bind (wpAny_field (x:=_) hT uv h3 ?_);rw [if_pos (by simp)];exact wpAny_pure (q s.heap hk (Heap.UpToSlots.refl _) hl ht)
theorem jK {fl:Value}{fo:Option Addr}(hk:B.StaysIn s.heap)(hl:s.heap.FunFrames B (env::outer))(ht:Rp s.heap B a cls fl)
  (q:∀ h',B.StaysIn h'->s.heap.UpToSlots h'->h'.FunFrames B (env::outer)->Rp h' B a cls (fo.elim Value.none λf=>rawInt f)->Q () { s with heap:=h' }):wpAny M A (setFlight (.ref a) fo) Q Ex s:=by
 obtain ⟨oe,vs,T,oT,ts,he,hc,u9,hd,h1,TF,TN,hT,uv,h3⟩:=ht;have sz:3 < ts.size:=(Array.getElem?_eq_some_iff.mp h3).1;obtain ⟨k2,u2,l2,t2,e2⟩:=pT (fl:=fl) (SM:=fo.elim Value.none λf=>rawInt f) he hc u9 hd h1 TF TN hT uv sz hk hl;unfold setFlight;refine wpAny_bind (wpAny_field (x:=_) he hd h1 ?_);rw [if_pos (by simp)];exact wpAny_setField hT uv sz (q _ k2 u2 l2 t2)
end
section
variable {X:Cx}{E:XK}
theorem PY:PassesOwn (model X.prog X.w) X.A X.env (WX X E):=by rintro e s' ⟨⟨M6,hf,ff⟩,a,cls,H',B,rfl,x,y,q⟩;refine nM M6 hf x.stays y λh1 k1 u1 l1 t1=>?_;obtain ⟨oe,vs,T,oT,ts,he,hc,u9,hd,Y6,TF,TN,hT,uv,h3⟩:=id t1;unfold cameBackBy;rw [hf];refine wpAny_bind (wpAny_field he hd Y6 ?_);dsimp only;rw [if_neg (by simp)];refine jK (outer:=X.outer) (env:=X.env) k1 l1 t1 λh2 k2 u2 l2 t2=>?_;exact ⟨⟨M6,hf,ff⟩,a,cls,H',B,rfl,(x.step ff k1 u1).step ff k2 u2,⟨y.1,l2,.inr (.inr ⟨_,hf,t2⟩)⟩,q⟩
theorem pJ {P:Program}{w:World}{A:Around}{env:Env}{outer:List Env}{H:Hp}{s s':Shared}{base:Heap}{L:Addr}{e:Value}{Ex:Value->Shared->Prop}(M6:A.frames=some (env::outer))(hf:env.frame=some L)(ff:s.heap.FunFrames base outer)
  (h:∃ a cls H' B,e=Value.ref a/\XL P w outer H s H' B s'/\V1 B env outer a cls s'.heap/\E cls none H'):wpAny (model P w) A (leaving env e) (λ_ vK=>vc P w outer H s E e vK) Ex s':=by
 obtain ⟨a,cls,H',B,rfl,x,y,q⟩:=h;unfold leaving;refine wpAny_bind (nM M6 hf x.stays y λh1 k1 u1 l1 t1=>?_);refine jK k1 l1 t1 λh2 k2 u2 l2 t2=>?_;exact ⟨a,cls,H',B,rfl,(x.step ff k1 u1).step ff k2 u2,y.1,l2.2.2,t2,q⟩
theorem MR {E':XK}(hs:X.stack=X.env::X.outer)(hf:X.env.frame=some X.env.locals)(hex:X.ex=[])(hE:∀ cls H',E' cls none H'->E cls none H'):Passes (vc X.prog X.w) (X.exc E) E':=by
  rintro aa σ H s e s' I0 ⟨a,cls,H',B,rfl,x,f2,f3,f4,q⟩;have I:=I0.cE;have P8:∀ b,b ∉ X.ex:=λb hb=>by rw [hex] at hb;cases hb
  have W8:∀ b o,X.cP.heap.get? b=some o->b ∉ X.fs->b ∉ mq X.stack:=λb o e nb hb=>by
    rcases zH.mp (I.gT b hb) with z | z
    · subst z;exact absurd (zR (Heap.lt_size e) I.ok.above) (z6 _)
    · exact nb z
  have inst:∀ b,b∈X.fs->b∈mq X.stack:=λb hb=>by
    rw [hs];unfold mq;rw [yd];split
    · exact hb
    · exact zc _ hb
  rw [show (X.exc E).stack=X.env::X.outer from hs] at f3;exact ⟨⟨by rw [<-hs];exact I.ok.frames,hf,I.ok.gc⟩,a,cls,H',B,rfl,
    { os:=x.os.trans I.os
      bare:=x.bare
      qg:=λb o e n hb=>x.qg b o (I.base.keep b o e n hb (P8 b)) (I.base.free b o e n (P8 b)) (W8 b o e hb)
      allB:=λb o e hb=>by
        obtain ⟨o1,e1⟩:=I.base.there b o e (P8 b);exact x.allB b o1 e1 (W8 b o e hb)
      NB:=x.NB
      VB:=λb o e hb=>by
        obtain ⟨sl,e1⟩:=I.base.slot b o e (I.ok.QF b hb) hb (P8 b);obtain ⟨Zx,e2⟩:=x.VB b _ e1 (inst b hb);exact ⟨Zx,e2⟩
      free:=λb o e n=>by
        obtain ⟨o1,e1⟩:=I.base.there b o e (P8 b);exact x.free b o1 e1 (I.base.free b o e n (P8 b))
      aS:=λb xs e=>x.aS b xs (I.base.aS b xs e)
      fc:=λb o u e=>x.fc b o u (I.base.fc b o u e)
      eY:=λb ps e=>by
        obtain ⟨m1,e1⟩:=I.base.eY b ps e;obtain ⟨m2,e2⟩:=x.eY b _ e1;exact ⟨m1++m2,by rw [e2,Array.append_assoc]⟩
      aY:=x.aY
      stays:=x.stays },⟨f2,f3,.inr (.inl f4)⟩,hE _ _ q⟩
theorem PD {aa:List (Addr×Obj)}{σ:St}{H:Hp}{s:Shared}{h':Heap}{e:Addr}{cls:Value}{args:List Value}(hs:X.stack=X.env::X.outer)(hf:X.env.frame=some X.env.locals)(hex:X.ex=[])(I:Inv X aa σ H s)(hx:Heap.MadeExcOf s.heap h' e cls args)(q:E cls none H):WX X E (.ref e) { s with heap:=h' }:=by
  have P8:∀ b,b ∉ X.ex:=λb hb=>by rw [hex] at hb;cases hb
  have W8:∀ b o,X.cP.heap.get? b=some o->b ∉ X.fs->b ∉ mq X.stack:=λb o e nb hb=>by
    rcases zH.mp (I.gT b hb) with z | z
    · subst z;exact absurd (zR (Heap.lt_size e) I.ok.above) (z6 _)
    · exact nb z
  obtain ⟨t,he,hnt,ht⟩:=hx.there;have Rk:∀ env∈X.stack,∀ b,env.frame=some b->b∈mq X.stack:=λenv hm b hb=>yV.mpr ⟨env,hm,hb⟩;have fr:=(PySem.W.funFrames_hide I.stack Rk).of_keeps (h':=h') λb o e _=>⟨o,hx.keeps b o e,rfl⟩;rw [hs] at fr;refine ⟨⟨by rw [<-hs];exact I.ok.frames,hf,I.ok.gc⟩,e,cls,H,PySem.W.hideAll s.heap (mq X.stack),rfl,
    { os:=I.os
      bare:=I.bare
      qg:=λb o e n hb=>PySem.W.hideAll_get _ (I.base.keep b o e n hb (P8 b)) (W8 b o e hb)
      allB:=λb o e hb=>by
        obtain ⟨o1,e1⟩:=I.base.there b o e (P8 b);exact ⟨o1,PySem.W.hideAll_get _ e1 (W8 b o e hb)⟩
      NB:=λb u hu=>by
        obtain ⟨o1,e1⟩:=(I.aY b u hu).has;exact ⟨o1,PySem.W.hideAll_get _ e1 λhb=>by rw [I.qS b hb] at hu;cases hu⟩
      VB:=λb o e hb=>by
        obtain ⟨sl,e1⟩:=I.base.slot b o e (I.ok.QF b hb) hb (P8 b);exact ⟨sl,hx.keeps _ _ e1⟩
      free:=λb o e n=>I.base.free b o e n (P8 b)
      aS:=I.base.aS
      fc:=I.base.fc
      eY:=I.base.eY
      aY:=I.aY.kept hx.keeps
      stays:=λb o e=>hx.keeps _ _ (PySem.W.of_hideAll _ e) },⟨?_,by rw [<-hs];rw [hs];exact fr,.inl ⟨_,_,he,rfl,rfl,rfl,rfl⟩⟩,q⟩
  cases z:(PySem.W.hideAll s.heap (mq X.stack)).get? e with
  | none=>rfl
  | some o=>have:=PySem.W.of_hideAll _ z;rw [hx.new] at this;cases this
end
noncomputable abbrev veB:List Value:=[.type "ValueError", .type "Exception", .type "BaseException", .type "object"]
noncomputable def Mv (K:PySem.W.Frag)(C:Addr):Bool:=
 PySem.W.excIn K C veB "ValueError.__new__" && (zW K (.ref C) "__getattribute__" == some (some (.builtin "BaseException.__getattribute__"))) && (zW K (.ref C) "__getattr__" == some none) &&
 (zW K (.ref C) "__class__" == some (some (.builtin "object.__class__"))) && (xZ K C (.type "object") == some true) && (xZ K C (.type "BaseException") == some true) && (PySem.W.clsIn K C).isSome &&
 (PySem.W.specialIn K (.builtin "object.__class__") "__get__" == some (some (.builtin "getset_descriptor.__get__"))) && (PySem.W.takesIn K (.builtin "object.__class__") == some true)
structure Mq (K:PySem.W.Frag) (C:Addr):Prop where
 exc:PySem.W.excIn K C veB "ValueError.__new__" = true
 ga:zW K (.ref C) "__getattribute__" = some (some (.builtin "BaseException.__getattribute__"))
 gn:zW K (.ref C) "__getattr__" = some none
 cl:zW K (.ref C) "__class__" = some (some (.builtin "object.__class__"))
 ob:xZ K C (.type "object")=some true
 bx:xZ K C (.type "BaseException")=some true
 ic:(PySem.W.clsIn K C).isSome=true
 sp:PySem.W.specialIn K (.builtin "object.__class__") "__get__" = some (some (.builtin "getset_descriptor.__get__"))
 tk:PySem.W.takesIn K (.builtin "object.__class__")=some true
theorem Mq.of {K:PySem.W.Frag}{C:Addr}(h:Mv K C=true):Mq K C:=by simp only [Mv,yz,beq_iff_eq] at h;obtain ⟨⟨⟨⟨⟨⟨⟨⟨h1,h2⟩,h3⟩,h4⟩,h5⟩,h6⟩,h7⟩,h8⟩,h9⟩:=h;exact ⟨h1,h2,h3,h4,h5,h6,h7,h8,h9⟩
section
open PySem.W
variable {prog:Program}{w:World}{A:Around}{E:Value->Shared->Prop}{s:Shared}{K:PySem.W.Frag}{x C:Addr}{ox:Obj}{Q:Option Value->Shared->Prop}
end
section
variable {X:Cx}{K:PySem.W.Frag}
end
theorem VE {K:PySem.W.Frag}{h:Heap}{C:Addr}{bmB:List Value}{ni:String}(X:K.In h)(q:PySem.W.excIn K C bmB ni=true):∃ bm N nm qn bs hd sn sub ab col dd k0 k1 k2 k3 k5 mN,
  h.get? C=some (excClassObj nm qn C N bs bm hd sn sub ab col dd k0 k1 k2 k3 k5 ni)/\h.Ns N mN/\mN "__init__" = none/\OwnTail h bmB bm:=by
 simp only [PySem.W.excIn] at q;split at q
 case h_2=>cases q
 case h_1 d0 c0 z0 lk=>
  split at q
  case h_2=>cases q
  case h_1 C0 bm p0 p1 p2 p3 n0 p5 em es=>
   simp only [yz,beq_iff_eq,Bool.not_eq_true'] at q;obtain ⟨⟨⟨⟨⟨e1,e2⟩,e3⟩,e4⟩,e5⟩,e6⟩:=q;subst e1 e2;have ez:z0=#[p0,p1,p2,p3,some (.builtin n0),p5]:=by rw [<-es]
   have kC:=X _ _ lk;rw [ez] at kC;rcases c0 with ⟨nm,bs,mro,ns,qn,hd,sn,sub,ab,col,del⟩;have em':mro=.ref C0::bm:=em;have e3':del=false:=e3;subst em' e3';exact ⟨bm,ns,nm,qn,bs,hd,sn,sub,ab,col,d0,p0,p1,p2,p3,p5,_,kC,.of_isNs (PySem.W.isNs_of_in X e5),PySem.W.nsMap_none_of_in X e5 e6,PySem.W.tail_of_in X e4⟩
section
variable {X:Cx}{E:XK}
theorem PS.rE {st:Stmt}{t:TS}(h:PS X.rE st t):PS X st t:=λaa s σ H D I hw=>
 wpAny_mono (h aa s σ H D (I.iP _) hw) (λ_ _ q=>q.cE) λ_ _ z=>False.elim z
noncomputable def Ug (E:XK)(C:Addr):TS:=λ_ _ H=>E (.ref C) none H
theorem gW {x:Str}{C:Addr}{np dm pos p1:Pos}{t:Str}{j}(hs:X.stack=X.env::X.outer)(hf:X.env.frame=some X.env.locals)(hex:X.ex=[])(hc:X.calm=true)(hg:Gl X x)(hm:X.mg x=some (.ref C))(xc:Mq X.K C)(uu:(x == ("__debug__" : Str))=false:=by decide)
  (he:starEach [Expr.Constant (.str t) j p1] X.env=[(false,eval (.Constant (.str t) j p1) X.env)]:=by rfl) :
  PS (X.exc E) (.Raise (some (.Call (.Name x np) [.Constant (.str t) j p1] [] dm)) none pos) (Ug E C):=by
 intro aa s σ H D I0 h;have I:=I0.cE;obtain ⟨bm,N,nm,qn,bs,hd,sn,sub,ab,col,dd,k0,k1,k2,k3,k5,mN,kC,kN,kn,kt⟩:=VE I.jM xc.exc;refine wpAny_Raise_call_subT (env:=X.env) (C:=C) (nm:=nm) (q:=qn) (N:=N) (bs:=bs) (bm:=bm) (hdct:=hd) (sn:=sn) (sub:=sub) (ab:=ab) (col:=col) (dd:=dd) (k0:=k0) (k1:=k1) (k2:=k2) (k3:=k3) (k5:=k5)
  PySem.F.excBase_ValueError (mN:=mN) (kt.hasType PySem.F.excBase_ValueError.hasBase) (I.ok.hd hc) (by rw [he];rfl) kn (iK I0 hg hm ⟨rfl,?_⟩ uu)
 rw [he];refine Calls.evalArgs_plain (Calls.spliced_cons (Calls.Constant_str (pos:=p1) (k:=j) (Calls.spliced_nil ?_)));refine ⟨rfl,by show 1<=sizeLine;decide,kC,kN,kt,λh' e me=>?_⟩;exact PD (s:={ s with toks:=s.toks + 1 }) hs hf hex (I.tok _) me h
end
section
variable {P:Program}{w:World}{K:PySem.W.Frag}{mg:Str->Option Value}{base:Heap}
theorem bI.okE {x qual:Str}{st:Stmt}{f:Addr}{fd:FuncData}{N ps:List Str}{k:Nat}{sp:Sp}(F:bI K x qual st f fd)(S:aA N ps (av st))(len:∀ vs H Q E,sp vs H Q E->vs.length=ps.length)
  (ir:∀ (bZ:Value) (A:Around) (outer:List Env) (s:Shared) (H:Hp) (vs:List V) (Q:VK) (E:XK),cJ k (A.deeper (envOfC qual (av st) s.heap.objs.size f bZ))->sp vs H Q E ->
   ∃ t,qK ((iu (vc P w) P w K mg base N qual (av st) f bZ A outer s H E).exc E) (gg st) t/\t { nx:=λ_ H'=>Q .cI H',rt:=Q } (start N vs) H):aV P w K mg base (vc P w) (k + 1) f fd ps sp:=by
 obtain ⟨oc,od,kV,doc,pm,an,bZ,ct,Rc,rfl,lk,rN⟩:=F.ex;refine QG lk rN S len λA outer s H vs Q E hr um=>?_;obtain ⟨t,h,q⟩:=ir bZ A outer s H vs Q E hr um;refine ⟨t,λaa s1 σ H1 D I hw=>?_,q⟩;exact wpAny_mono (h aa s1 σ H1 D (I.iP _) hw) (λ_ _ z=>z.cE) λe s2 z=>pJ (base:=base) I.ok.frames rfl I.ok.gc z.2
end
section
variable {X:Cx}{aa:List (Addr×Obj)}{σ:St}{H:Hp}{s:Shared}
end
noncomputable def Cx.hand (X:Cx)(e:Addr):Cx:={ X with A:=X.A.mark (some (.ref e)),calm:=false,xe:=λ_ _=>False }
section
variable {X:Cx}{aa:List (Addr×Obj)}{σ:St}{H:Hp}{s:Shared}{e:Addr}
theorem Inv.hand (I:Inv X aa σ H s)(e:Addr):Inv (X.hand e) aa σ H s:=
 ⟨⟨I.ok.mod,I.ok.kind,I.ok.glob,I.ok.blt,I.ok.above,I.ok.inj,I.ok.has,I.ok.Wo,(λz=>by cases z),I.ok.frames,I.ok.WJ,I.ok.exf,I.ok.bs,I.ok.OP,I.ok.N4,I.ok.QH,I.ok.gc,I.ok.QF⟩,I.os,I.bare,I.base,I.loc,I.cell,I.free,I.gF,I.pin,I.aY,I.len⟩
theorem Inv.qP (ok:X.Ok)(I:Inv (X.hand e) aa σ H s):Inv X aa σ H s:=⟨ok,I.os,I.bare,I.base,I.loc,I.cell,I.free,I.gF,I.pin,I.aY,I.len⟩
end
noncomputable def PSx (X:Cx)(st:List Stmt)(t:XK->TS):Prop:=∀ (aa:List (Addr×Obj)) (s:Shared) (σ:St) (H:Hp) (D:Ends) (Eh:XK) (Z:Value->Shared->Prop),Inv X aa σ H s->t Eh D σ H ->
 (∀ H1 s1 e s',Inv X aa σ H1 s1->vc X.prog X.w X.stack H1 s1 Eh e s'->Z e s')->wpAny (model X.prog X.w) X.A (execs st X.env) (SP X aa D) Z s
section
variable {X:Cx}{k:Nat}{f:Addr}{fd:FuncData}{ps:List Str}{sp:Sp}{jZ:List V}{ds:List Value}{x:Str}{p pos dm:Pos}{e:Expr}{es:List Expr}{t:TA}
theorem RV {aa:List (Addr×Obj)}{σ:St}{H:Hp}{s:Shared}{Q:VK}{us:List Value}{vs:List V}{Eh:XK}{Z:Value->Shared->Prop}(F:aV X.prog X.w X.K X.mg X.base (vc X.prog X.w) k f fd ps sp)(hr:cJ k X.A)(hb:Binds X.K fd ps ds)(hd:Vals jZ ds)
  (hx:∀ e s',vc X.prog X.w X.stack H s Eh e s'->Z e s') (I:Inv X aa σ H s) (r:Vals vs us) (h:sp (vs++jZ) H Q Eh):wpAny (model X.prog X.w) X.A (call (.ref f) us) (EP X aa σ Q) Z s:=by
 have r2:Vals (vs++jZ) (us++ds):=r.append hd;have hl:(us++ds).length=ps.length:=by rw [<-r2.length];exact F.len _ _ _ _ h
 refine wpAny_call (codeAny_mono (F.run X.A X.stack s H ⟨us,[]⟩ (us++ds) (vs++jZ) Q Eh hr I.SQ (hb s us I.jM hl) r2 h) λr s' hq=>?_);cases r with
 | error e=>exact hx e s' hq
 | ok fl=>
  cases fl with
  | ret u=>exact I.after hq
  | next=>exact False.elim hq
  | brk=>exact False.elim hq
  | cont=>exact False.elim hq
theorem Yj {aa:List (Addr×Obj)}{σ:St}{H:Hp}{s:Shared}{Q:VK}{Eh:XK}{Z:Value->Shared->Prop}(F:aV X.prog X.w X.K X.mg X.base (vc X.prog X.w) k f fd ps sp)(hr:cJ k X.A)(hg:Gl X x)(hm:X.mg x=some (.ref f))(hk:zG X.K (.ref f)=true)(hb:Binds X.K fd ps ds)(hd:Vals jZ ds)
  (ha:PA X.rE (e::es) t) (I:Inv X aa σ H s) (h:jx sp jZ Eh t σ H Q) (hx:∀ H1 s1 e s',Inv X aa σ H1 s1->vc X.prog X.w X.stack H1 s1 Eh e s'->Z e s') (uu:(x == ("__debug__" : Str))=false)
  (he:starEach (e::es) X.env=(false,eval e X.env)::starEach es X.env) (LZ:(backTo dm (starEach es X.env)).any (·.1)=false) :
  wpAny (model X.prog X.w) X.A (eval (.Call (.Name x p) (e::es) [] dm) X.env) (EP X aa σ Q) Z s:=by
 refine wpAny_Call_Name_kw (iK I hg hm ?_ uu);refine PySem.W.callWith_K (h₀:=X.base) I.ok.mod.V9 hk (wpAny_mono (ha dm aa s σ H _ (I.iP _) h) (λus s1 ⟨vs,H1,I1,r,q⟩=>⟨I1.cE.jM,?_⟩) λ_ _ z=>z.elim) he LZ;exact RV F hr hb hd (λe s' z=>hx H1 s1 e s' I1.cE z) I1.cE r q
theorem R3 {i:Nat}{y:Str}{yp:Pos}(F:aV X.prog X.w X.K X.mg X.base (vc X.prog X.w) k f fd ps sp)(hr:cJ k X.A)(hg:Gl X x)(hm:X.mg x=some (.ref f))(hk:zG X.K (.ref f)=true)(hb:Binds X.K fd ps ds)(hd:Vals jZ ds)
  (hN:X.N.Nodup) (hi:X.N[i]?=some y) (hy:Loc X.env.scope y) (ha:PA X.rE (e::es) t) (uu:(x == ("__debug__" : Str))=false:=by decide) (he:starEach (e::es) X.env=(false,eval e X.env)::starEach es X.env:=by rfl) (LZ:(backTo dm (starEach es X.env)).any (·.1)=false:=by rfl)
  (hs:swapsWith (.Call (.Name x p) (e::es) [] dm) (some (.Name y yp)) pos.line X.env=pure false:=by rfl) (hf:X.fn y=true\/X.env.scope.names.lookup y=some .local:=by first | exact .inl rfl | exact .inr rfl | assumption) :
  PSx X [.Assign [.Name y yp] (.Call (.Name x p) (e::es) [] dm) pos] (λEh=>oY (jx sp jZ Eh t) (fL i)):=by
 intro aa s σ H D Eh Z I h hx;refine wpAny_execs_cons (wpAny_Assign_Name (bu (Yj F hr hg hm hk hb hd ha I h hx uu he LZ) λv s1 ⟨z,H1,I1,r1,q1⟩=>?_) hs);exact gS I1 hN hi hy r1 (λs2 I2=>wpAny_execs_nil ⟨_,H1,I2,q1⟩) hf
end
section
variable {X:Cx}{K:PySem.W.Frag}
end
section
variable {X:Cx}{K:PySem.W.Frag}{e o:Expr}{es:List Expr}{to:TE}{t:TA}{T id:String}{name:Str}{apos dm:Pos}{r:V->List V->Hp->VK->Prop}
end
theorem UL {X:Cx}(hu:X.A.units + 64 < cLine):gO X (compareOp .In) (λx y H Q=>∃ a o,y=.ref a/\iU H a x o/\Q (.bl o.isSome) H):=by intro aa s σ H x y v u Q I rx ry h;obtain ⟨a,o,rfl,g,q⟩:=h;cases ry;exact aaN (by omega) I g rx λs' I'=>⟨.bl _,H,I',rfl,q⟩
theorem p8 {X:Cx}(hu:X.A.units + 64 < cLine):gO X (compareOp .NotIn) (λx y H Q=>∃ a o,y=.ref a/\iU H a x o/\Q (.bl (!o.isSome)) H):=by intro aa s σ H x y v u Q I rx ry h;obtain ⟨a,o,rfl,g,q⟩:=h;cases ry;exact SS (by omega) I g rx λs' I'=>⟨.bl _,H,I',rfl,q⟩
end L2
namespace Sm
open PySem L2 aZ
noncomputable def kvV (kv:List (Int×Int)):List (Key×V):=kv.map λp=>(Sum.inl p.1,V.int p.2)
theorem fq {kv:List (Int×Int)}{w:Int}:(cS (kvV kv) (Sum.inl w)).isSome=kv.any λp=>decide (p.1=w):=by
 unfold cS kvV;rw [xF,Option.isSome_map,List.find?_isSome,List.any_eq_true];constructor
 ·rintro ⟨p,hp,e⟩;obtain ⟨q,hq,rfl⟩:=zP.mp hp;have e1:=of_decide_eq_true e;exact ⟨q,hq,decide_eq_true (Sum.inl.inj e1)⟩
 ·rintro ⟨q,hq,e⟩;exact ⟨_,zP.mpr ⟨q,hq,rfl⟩,decide_eq_true (congrArg Sum.inl (of_decide_eq_true e))⟩
theorem aB.but {H H':Hp}{x:Addr}(s:aB H H'):bY x H H':=λb u _ e=>s b u e
section
variable {C:Addr}{H H':Hp}{t:Tr}{af:List Int}{tr tm:Addr}{ps:List (Addr×M4)} {n0:Nat}
end
theorem bY.free {x c:Addr}{H H':Hp}(b:bY x H H')(n:c≠x)(h:H' c=none):H c=none:=by
 cases z:H c with
 | none=>rfl
 | some u=>have:=b _ _ n z;rw [h] at this;cases this
theorem P9 {K:PySem.W.Frag}{H:Hp}{l d:Addr}{ns:List Int}{Q:VK}{neg:Bool}(hl:H l=some (.lst (ns.map V.int)))(hd:H d=some (.lst (ns.map V.int)))(q:Q (.bl (if neg=true then !true else true)) H):WV K neg (.ref l) (.ref d) H Q:=by refine ⟨0,l,d,_,_,λ_=>true,true,by decide,rfl,rfl,.inl ⟨aL.of hl,aL.of hd⟩,by simp,λi x y hx hy=>?_,q⟩;rw [hx] at hy;cases hy;obtain ⟨r,hr,rfl⟩:=wN hx;exact .inr ⟨rfl,rfl,by rw [rT,decide_eq_true rfl]⟩
section
variable {C:Addr} {H0 H H':Hp}{t u:Tr}{af:List Int}{tr tm:Addr}{ps:List (Addr×M4)} {n0 n1:Nat}
end
theorem qb:∀ {xs ys:List Int},xs.Nodup->(∀ x∈xs,x∈ys)->xs.length<=ys.length
 | [],_,_,_=>zb _
 | x::xs,ys,nd,h=>by
  have nd':=zk.mp nd;have hm:=h x (.head _);have:=qb (xs:=xs) (ys:=ys.erase x) nd'.2 λz hz=>(List.mem_erase_of_ne (λe=>nd'.1 (by rw [<-e];exact hz))).mpr (h z (.tail _ hz));rw [List.length_erase_of_mem hm] at this;have:0 < ys.length:=List.length_pos_of_mem hm;show xs.length + 1<=_;omega
theorem map_some {α β:Type}{f:α->β}{o o':Option α}{a:α}(e:o.map f=o'.map f)(h:o'=some a):∃ b,o=some b/\f b=f a:=by
 subst h;cases o with
 | none=>cases e
 | some b=>exact ⟨b,rfl,Option.some.inj e⟩
theorem fO {n:Nat}{ms:List M4}(g:Good n ms){s w:Nat}{a e:Int}{cs:List Int}(wk:aX ms s a (-1) cs=some (w,e)):cK (fwd ms (aI s a) w) e=true:=by have er:=kP (s:=s) (x:=a) g;exact pO g (jQ g) _ s a (-1) (bq.mpr ⟨a,er.self,zp _⟩) _ _ wk
open Classical in
noncomputable def cut (M:Addr->Prop) (H:Hp):Hp:=λc=>if M c then none else H c
end Sm
namespace L2
open PySem PySem.Spec PyProof.Rows
section
variable {X:Cx}{pos:Pos}
noncomputable def X6 (K:PySem.W.Frag)(n:Nat)(t:Rq):TG:=λv σ H Q=>∃ a xs,v=.ref a/\aL K H a xs/\xs.length=n/\t xs σ H Q
theorem R9 {es:List Expr}{k:Nat}{t:Rq}{n:Nat}(hc:X.calm=true)(h:Wr X es t)
  (hn:(assignEach es X.env).length=n:=by rfl) (M6:(assignEach es X.env).findIdx? (·.1)=none:=by rfl):PG X (.Tuple es k pos) (X6 X.K n t):=by
 intro aa s σ H v u Q I r hw;obtain ⟨a,xs,e1,hq,hl,hw⟩:=hw;subst e1;cases r;obtain ⟨aC,rv,⟨o,m,ho,We,hd,hs⟩,hz⟩:=I.list hq;have XM:s.heap.IsList a aC.toArray:=⟨o,ho,We,m,hs⟩;rw [assign_Tuple];refine wpAny_bind (wpAny_standAt ?_);unfold unpack;rw [M6,show (assignEach es X.env).length=aC.toArray.size by simp [hn,<- hl,rv.length]];refine wpAny_bind (wpAny_holding (PySem.W.kun_itemsOf (I.ok.hd hc) XM λh' hx=>?_));have I1:Inv X aa σ H { s with heap:=h' }:=I.kept (t':=s.toks) λb o e=>hx b o (zV (Heap.lt_size e)) e;exact h aa _ σ H xs _ Q I1 (by simpa using rv) hw
end
end L2
namespace Sm
open PySem L2 aZ
section
variable {C:Addr} {H0 H:Hp}{t u:Tr}{af:List Int}{tr tm:Addr}{ps:List (Addr×M4)} {n0 n1:Nat}
end
end Sm
namespace L2
open PySem PySem.Spec PyProof.Rows
noncomputable def S8 (ok:Value->Option Bool)(tb:XK->TS)(th:TS):TS:=λD σ H=>
 tb (λcls _ H'=>ok cls=some true/\∃ C,cls=Value.ref C/\th D σ H') D σ H
section
variable {X:Cx}{K:PySem.W.Frag}
theorem R6 {body:List Stmt}{tb:XK->TS}{QU:Stmt}{sW:List Stmt}{t:Expr}{Vj pos:Pos}{th:TS}{ok:Value->Option Bool}(hb:PSx X body tb)(hs:X.stack=X.env::X.outer)(hf:X.env.frame=some X.env.locals)
  (ht:∀ (e:Addr) (aa:List (Addr×Obj)) (σ:St) (H:Hp) (s:Shared) (C:Addr) (Q:Bool->Shared->Prop) (E E':Value->Shared->Prop),Inv X aa σ H s->PySem.W.Looks (model X.prog X.w) s.heap (typeOf (.ref e)) (.ref C)->ok (.ref C)=some true ->
   (∀ h',(∀ b o,s.heap.get? b=some o->h'.get? b=some o)->Q true { s with heap:=h' })->wpAny (model X.prog X.w) (X.hand e).A (eval t X.env) (λc s1=>wpAny (model X.prog X.w) (X.hand e).A (excMatches (.ref e) c) Q E' s1) E s)
  (hh:∀ e,qK (X.hand e) (QU::sW) th):PS X (.Try body [.ExceptHandler (some t) none (QU::sW) Vj] [] [] pos) (S8 ok tb th):=by
 intro aa s σ H D I h;refine wpAny_Try_except (bu (hb aa s σ H D _ _ I h ?_) λf s1 q=>?_)
 ·intro H1 s1 e s' I1 ⟨a,cls,H',B,ee,x,nb,ff,Xx,em,C,ec,q⟩;subst ee ec;have fr:X.A.frames=some (X.env::X.outer):=by rw [<-hs];exact I1.ok.frames
  have Y9:=I1.stack;rw [hs] at ff;refine nM (cls:=.ref C) fr hf x.stays ⟨nb,ff,.inr (.inl Xx)⟩ λh2 k2 u2 l2 t2=>?_;refine jK (fo:=none) k2 l2 t2 λh3 k3 u3 l3 t3=>?_;have x3:=(x.step Y9 k2 u2).step Y9 k3 u3;have J3:Inv X aa σ H' { s' with heap:=h3 }:=I1.Nj (ch:=[]) x3.os x3.un x3.aY x3.bare (λb z=>absurd z (by simp));obtain ⟨oe,vs,T,oT,ts,he,hc,_⟩:=id t3;have LT:PySem.W.Looks (model X.prog X.w) h3 (typeOf (.ref a)) (.ref C):=hc ▸ (PySem.W.Looks.ld he).andThen .now;refine wpAny_handleBy_cons (codeAny_handlers_test (ht a aa σ H' { s' with heap:=h3 } C _ _ _ J3 LT em λX5 kk=>?_)) (by intro z;cases z);have k3':B.StaysIn X5:=λb o e=>kk b o (k3 b o e);have l3':X5.FunFrames B (X.env::X.outer):=l3.of_keeps λb o q _=>⟨o,kk b o q,rfl⟩;have t3':Rp X5 B a (Value.ref C) ((none:Option Addr).elim Value.none λf=>rawInt ↑f):=by
   obtain ⟨oe,vs,T,oT,ts,he,hc,u9,hd,h1,hn,L3,hT,uv,h3⟩:=t3;exact ⟨oe,vs,T,oT,ts,kk _ _ he,hc,u9,hd,h1,hn,L3,kk _ _ hT,uv,h3⟩
  have x3':=x3.step Y9 k3' (PySem.Heap.UpToSlots.of_keeps kk);refine codeAny_handlers_suite (jK (fo:=none) k3' l3' t3' λh4 k4 u4 l4 t4=>?_);have x4:=x3'.step Y9 k4 u4;have J4:Inv X aa σ H' { s' with heap:=h4 }:=I1.Nj (ch:=[]) x4.os x4.un x4.aY x4.bare (λb z=>absurd z (by simp));refine wpAny_mono (hh a aa _ _ _ _ (J4.hand a) q) (λf s6 z=>?_) λ_ _ z=>z.elim;cases f with
  | next=>obtain ⟨cz,H2,I6,q6⟩:=z;exact ⟨cz,H2,I6.qP I.ok,q6⟩
  | brk=>obtain ⟨cz,H2,I6,q6⟩:=z;exact ⟨cz,H2,I6.qP I.ok,q6⟩
  | cont=>obtain ⟨cz,H2,I6,q6⟩:=z;exact ⟨cz,H2,I6.qP I.ok,q6⟩
  | ret u=>obtain ⟨v,cz,H2,I6,r6,q6⟩:=z;exact ⟨v,cz,H2,I6.qP I.ok,r6,q6⟩
 ·cases f with
  | next=>exact wpAny_execs_nil q
  | brk=>exact q
  | cont=>exact q
  | ret u=>exact q
theorem R5 {body:List Stmt}{tb:XK->TS}{QU:Stmt}{sW:List Stmt}{y:Str}{np Vj pos:Pos}{th:TS}{cy:Value}(hK:X.K=K)(hb:PSx X body tb)(hs:X.stack=X.env::X.outer)(hf:X.env.frame=some X.env.locals)
  (hg:Gl X y) (hm:X.mg y=some cy) (hh:∀ e,qK (X.hand e) (QU::sW) th) (uu:(y == ("__debug__" : Str))=false:=by decide) :
  PS X (.Try body [.ExceptHandler (some (.Name y np)) none (QU::sW) Vj] [] [] pos) (S8 (λcls=>PySem.W.exmOne K cls cy) tb th):=by
 subst hK;refine R6 hb hs hf (λe aa σ H s C Q E E' I LT em q=>?_) hh;exact iK (X:=X.hand e) (I.hand e) hg hm ((PySem.W.exm_one I.jM LT em).here (q s.heap λ_ _ z=>z)) uu
end
section
variable {X:Cx}
end
end L2
namespace Sm
open PySem L2 aZ
section
variable {CA CH CN:Addr}{H:Hp}{r:Addr}{n:Nat}{σ:St}{i:Nat}{Q:VK} {E1 E2 E3:XK}
end
section
variable {af:List Int}{ms:List M4}{d:Ym}{m j:Nat}{M:M4}{L:L4}{s:RS}{t:Tr}{ts:List (Addr×List (Option Int))}{ys:List (Addr×Dd)}{x:Addr×List (Option Int)}{g:Int}
end
noncomputable def MD:Sp:=λ_ _ _ _=>False
noncomputable def flip (a:Nat):Nat:=if a % 2=0 then a + 1 else a - 1
theorem UK (n:Nat):n ||| 1=if n % 2=0 then n + 1 else n:=by
 have e:∀ k:Nat,2 * k ||| 1=2 * k + 1:=λk=>by
  have:=Nat.two_pow_add_eq_or_of_lt (i:=1) (b:=1) (by decide) k;simpa using this.symm
 split
 ·rename_i h;have:n=2 * (n / 2):=by omega
  rw [this,e]
 ·rename_i h;have:n=2 * (n / 2) + 1:=by omega
  rw [this,<- e,Nat.or_assoc,Nat.or_self]
theorem qM (n:Nat):Builtin.bitXor (n:Int) 1=((flip n:Nat):Int):=by
 have a1:Builtin.bitAnd (n:Int) 1=((n % 2:Nat):Int):=by
  unfold Builtin.bitAnd;rw [decide_eq_true (by omega:(0:Int)<=(n:Int))];show ((n &&& 1:Nat):Int)=_;rw [Nat.and_one_is_mod]
 have a2:Builtin.bitOr (n:Int) 1=((n ||| 1:Nat):Int):=by
  unfold Builtin.bitOr Builtin.bitAnd Builtin.bitNot;rw [decide_eq_false (by omega:¬ (0:Int)<=-(n:Int) - 1)];show -(-((((-(-(n:Int) - 1) - 1).toNat ||| (-(-(1:Int) - 1) - 1).toNat:Nat):Int)) - 1) - 1=_;rw [show (-(-(n:Int) - 1) - 1).toNat=n by omega,show (-(-(1:Int) - 1) - 1).toNat=1 by omega];omega
 unfold Builtin.bitXor;rw [a1,a2,UK];unfold flip;split <;> omega
theorem flip_flip (a:Nat):flip (flip a)=a:=by unfold flip;split <;> split <;> omega
theorem SK (a:Nat):flip a≠a:=by unfold flip;split <;> omega
theorem mw {a m:Nat}(h:a < 2 * m):flip a < 2 * m:=by unfold flip;split <;> omega
end Sm
namespace L2
open PySem PySem.Spec PyProof.Rows
section
variable {prog:Program}{w:World}{A:Around}{E:Value->Shared->Prop}{s:Shared}
theorem Oj {Q:Int->Shared->Prop}(h:Q 4238894112 { s with toks:=s.toks + 1 }):wpAny (model prog w) A (pyHash .none) Q E s:=by
 unfold pyHash;have hv:[Value.none].any Value.onHeap=false:=rfl;refine wpAny_bind ?_;rw [cRoomFor,if_neg (by rw [hv];exact zO)];refine wpAny_pure ?_;refine wpAny_bind (wpAny_specialOf (typeIs_none s) F.slot_NoneType_hash.lookup ?_);show wpAny _ _ (if (some (Value.builtin "NoneType.__hash__") == some Value.none)=true then _ else _) Q E s;rw [if_neg (by rw [beq_builtin_none];exact zO)];refine wpAny_bind (wpAny_specialOf (typeIs_none s) F.slot_NoneType_hash.lookup ?_);show wpAny _ _ (callSpecialIfBoundUnlessNone? .none "__hash__" _ >>= _) Q E s;refine wpAny_bind (wpAny_callSpecialIfBoundUnlessNone?_slot (typeIs_none s) F.slot_NoneType_hash
  (wpAny_call_entry F.slot_NoneType_hash (typeIs_none s) F.entry_NoneType_hash
   (show wpAny _ _ (do ret (<- mkInt 4238894112)) _ _ s from wpAny_ret_mkInt ?_) (F.args_NoneType_hash_1 _)))
 show wpAny _ _ (if (decide (-(2:Int) ^ 63<=4238894112) && decide ((4238894112:Int) < 2 ^ 63))=true then _ else _) Q E _;rw [if_pos (by decide)];exact wpAny_pure h
end
noncomputable def YM:Option Key->Value->Bool
 | none,.none=>true
 | none,_=>false
 | some k,v=>nV k v
theorem qB {v:Value}(h:YM none v=true):v=.none:=by cases v <;> first | rfl | cases h
noncomputable def optKind (prog:Program)(w:World):PySem.KeyKind prog w (Option Key) where
 is:=YM
 hash:=fun | none=>4238894112 | some k=>Xm w k
 inj:=λv a b ha hb=>by
  cases a with
  | none=>
   cases qB ha;cases b with
   | none=>rfl
   | some k=>rcases wH hb with ⟨_,_,_,e⟩ | ⟨_,_,_,e⟩ <;> cases e
  | some k=>
   cases b with
   | none=>
    cases qB hb;rcases wH ha with ⟨_,_,_,e⟩ | ⟨_,_,_,e⟩ <;> cases e
   | some k'=>exact congrArg some ((aQ prog w).inj v k k' ha hb)
 byValue:=λk v h=>by
  cases k with
  | none=>cases qB h;rfl
  | some k=>exact (aQ prog w).byValue k v h
 pyHash:=λ{A E s k v Q} hv h=>by
  cases k with
  | none=>cases qB hv;exact Oj h
  | some k=>exact (aQ prog w).pyHash hv h
 eqBool:=λ{A E s a b u v Q} hu hv h=>by
  cases a with
  | none=>
   cases qB hu;cases b with
   | none=>cases qB hv;exact SeqAt.EqAt.same _ _ _ _ _ h
   | some k=>
    have h':Q false s:=by simpa using h
    rcases wH hv with ⟨i,t,_,rfl⟩ | ⟨x,t,_,rfl⟩
    ·exact SeqAt.EqAt.none_int i t _ _ _ _ h'
    ·exact SeqAt.EqAt.none_str x t _ _ _ _ h'
  | some k=>
   cases b with
   | none=>
    cases qB hv;have h':Q false s:=by simpa using h
    rcases wH hu with ⟨i,t,_,rfl⟩ | ⟨x,t,_,rfl⟩
    ·exact SeqAt.EqAt.int_none i t _ _ _ _ h'
    ·exact SeqAt.EqAt.str_none x t _ _ _ _ h'
   | some k'=>
    have e:decide (some k=some k')=decide (k=k'):=by simp
    rw [e] at h;exact (aQ prog w).eqBool hu hv h
 «strs»:=λk x t v h=>by
  cases k with
  | none=>cases qB h
  | some k=>exact (aQ prog w).strs k x t v h
theorem VL {P:Program}{w:World}{h:Heap}{a:Addr}{vs:List (Key×Value)}(d:h.DictOf (aQ P w) a vs):h.MapOf (optKind P w) a (fun | none=>none | some k=>valueAt vs k):=by
 obtain ⟨o,es,ep,ho,hc,hd,hk,hf⟩:=d.mapOf;refine ⟨o,es,ep,ho,hc,hd,λe he=>?_,λk=>?_⟩
 ·obtain ⟨k,h1,h2⟩:=hk e he;exact ⟨some k,h1,h2⟩
 ·cases k with
  | none=>
   show (es.find? λe=>YM none e.key).map (·.val)=none;have:(es.find? λe=>YM none e.key)=none:=by
    rw [Array.find?_eq_none];intro e he z;obtain ⟨k,h1,_⟩:=hk e he;have e1:=qB (by simpa using z);rw [e1] at h1;rcases wH h1 with ⟨_,_,_,q⟩ | ⟨_,_,_,q⟩ <;> cases q
   rw [this];rfl
  | some k=>exact hf k
section
variable {X:Cx}
theorem NY:gO X (compareOp .NotIn) (λx y H Q=>∃ a aF,x=.cI/\y=.ref a/\H a=some (.dK aF)/\Q (.bl true) H):=by intro aa s σ H x y v u Q I rx ry h;obtain ⟨a,aF,rfl,rfl,e,q⟩:=h;cases rx;cases ry;obtain ⟨z,hd,vs,rel,dd⟩:=qx I.aY (.inl e);exact wpAny_notIn_of (knd:=optKind X.prog X.w) (k:=none) rfl hd (VL dd) ⟨.bl _,H,I.tok _,rfl,q⟩
theorem NX (hu:X.A.units + 64 < cLine):gO X (compareOp .NotIn) (λx y H Q=>∃ a aF o,y=.ref a/\H a=some (.dK aF)/\x=oV o/\Q (.bl (match o with | none=>true | some i=>!(cS aF (Sum.inl i)).isSome)) H):=by
 intro aa s σ H x y v u Q I rx ry h;obtain ⟨a,aF,o,rfl,e,rfl,q⟩:=h;cases o with
 | none=>exact NY aa s σ H _ _ v u Q I rx ry ⟨a,aF,rfl,rfl,e,q⟩
 | some i=>exact p8 hu aa s σ H _ _ v u Q I rx ry ⟨a,_,rfl,iU.k (k:=Sum.inl i) e,q⟩
end
end L2
namespace Sm
open PySem L2 aZ
structure bX where
 h:Nat
 t:Nat
 m:Int
noncomputable def ck (ts:List bX):List Int:=ts.flatMap λx=>[(x.t:Int),(x.h:Int)]
noncomputable def bS (ts:List bX)(p:Nat):Nat->List Int
 | 0=>[]
 | i + 1=>bS ts p i++(match ts[i]? with
  | some x=>(if x.h=p then [((2 * i:Nat):Int)] else [])++(if x.t=p then [((2 * i + 1:Nat):Int)] else [])
  | none=>[])
noncomputable def hd (ts:List bX)(a:Nat):Nat:=match ts[a / 2]? with
 | some x=>if a % 2=0 then x.t else x.h
 | none=>0
noncomputable def tl (ts:List bX)(a:Nat):Nat:=hd ts (flip a)
theorem oz (ts:List bX):(ck ts).length=2 * ts.length:=by
 induction ts with
 | nil=>rfl
 | cons x ts ih=>
  have:ck (x::ts)=[(x.t:Int),(x.h:Int)]++ck ts:=rfl;rw [this,zE,ih,zX (a:=x)];show 2 + _=_;omega
theorem oA:∀ {ts:List bX}{a:Nat},a < 2 * ts.length->(ck ts)[a]?=some (hd ts a:Int)
 | [],a,h=>by simp at h
 | x::ts,a,h=>by
  have e:ck (x::ts)=[(x.t:Int),(x.h:Int)]++ck ts:=rfl;rw [e]
  match a with
  | 0=>rfl
  | 1=>rfl
  | a + 2=>
   have h2:a < 2 * ts.length:=by rw [zX] at h;omega
   have:([(x.t:Int),(x.h:Int)]++ck ts)[a + 2]?=(ck ts)[a]?:=rfl;rw [this,oA h2];unfold hd;have e1:(a + 2) / 2=a / 2 + 1:=by omega
   have e2:(a + 2) % 2=a % 2:=by omega
   rw [e1,e2];rfl
theorem iM {ts:List bX}{k:Nat}{x:bX}(h:ts[k]?=some x):hd ts (2 * k)=x.t/\hd ts (2 * k + 1)=x.h:=by unfold hd;rw [show 2 * k / 2=k by omega,show (2 * k + 1) / 2=k by omega,h];exact ⟨by dsimp only;rw [if_pos (by omega)],by dsimp only;rw [if_neg (by omega)]⟩
theorem qR {ts:List bX}{k:Nat}{x:bX}(h:ts[k]?=some x):tl ts (2 * k)=x.h/\tl ts (2 * k + 1)=x.t:=by
 unfold tl;have f1:flip (2 * k)=2 * k + 1:=by unfold flip;rw [if_pos (by omega)]
 have f2:flip (2 * k + 1)=2 * k:=by unfold flip;rw [if_neg (by omega)];omega
 rw [f1,f2];exact ⟨(iM h).2,(iM h).1⟩
theorem OE {ts:List bX}{a:Nat}(h:a < 2 * ts.length):∃ k x,ts[k]?=some x/\(a=2 * k\/a=2 * k + 1):=by
 have:a / 2 < ts.length:=by omega
 exact ⟨a / 2,_,zL this,by omega⟩
theorem jj {ts:List bX}{p:Nat}:∀ {i:Nat}{z:Int},i<=ts.length->(z∈bS ts p i↔∃ a:Nat,z=(a:Int)/\a < 2 * i/\tl ts a=p)
 | 0,z,_=>by
  constructor
  ·intro h;cases h
  ·rintro ⟨a,_,h,_⟩;omega
 | i + 1,z,hi=>by
  obtain ⟨x,hx⟩:∃ x,ts[i]?=some x:=⟨_,zL (by omega)⟩;have e:bS ts p (i + 1)=bS ts p i++((if x.h=p then [((2 * i:Nat):Int)] else [])++(if x.t=p then [((2 * i + 1:Nat):Int)] else [])):=by
   conv=>lhs;unfold bS
   rw [hx]
  obtain ⟨t1,t2⟩:=qR hx;rw [e,zT,jj (by omega),zT];constructor
  ·rintro (⟨a,rfl,h1,h2⟩ | h | h)
   ·exact ⟨a,rfl,by omega,h2⟩
   ·split at h
    ·rename_i c;rw [zF.mp h];exact ⟨2 * i,rfl,by omega,by rw [t1];exact c⟩
    ·cases h
   ·split at h
    ·rename_i c;rw [zF.mp h];exact ⟨2 * i + 1,rfl,by omega,by rw [t2];exact c⟩
    ·cases h
  ·rintro ⟨a,rfl,h1,h2⟩;by_cases c1:a < 2 * i
   ·exact .inl ⟨a,rfl,c1,h2⟩
   ·rcases (by omega:a=2 * i\/a=2 * i + 1) with rfl | rfl
    ·rw [t1] at h2;exact .inr (.inl (by rw [if_pos h2];exact .head _))
    ·rw [t2] at h2;exact .inr (.inr (by rw [if_pos h2];exact .head _))
noncomputable def bP (sp:List Int)(a:Nat):Int:=sp[a]?.getD 0
structure Sound (ts:List bX) (sp:List Int):Prop where
 len:sp.length=2 * ts.length
 pos:∀ a,a < 2 * ts.length->0<=bP sp a
 sum:∀ (k:Nat) (x:bX),ts[k]?=some x->bP sp (2 * k) + bP sp (2 * k + 1)=x.m
noncomputable def bump (sp:List Int)(a:Nat)(m:Int):List Int:=(sp.set a (bP sp a - m)).set (flip a) (bP (sp.set a (bP sp a - m)) (flip a) + m)
theorem Mm {sp:List Int}{a b:Nat}{v:Int}(h:a < sp.length):bP (sp.set a v) b=if b=a then v else bP sp b:=by
 unfold bP;rw [List.getElem?_set];by_cases c:a=b
 ·subst c;rw [if_pos rfl,if_pos h,if_pos rfl];rfl
 ·rw [if_neg c,if_neg (λz=>c z.symm)]
theorem oM {sp:List Int}{a:Nat}{m:Int}:(bump sp a m).length=sp.length:=by unfold bump;rw [yc,yc]
theorem mC {sp:List Int}{n a b:Nat}{m:Int}(l:sp.length=2 * n)(h:a < 2 * n):bP (bump sp a m) b=if b=a then bP sp a - m else if b=flip a then bP sp (flip a) + m else bP sp b:=by
 unfold bump;have hf:=mw h;have ne:=SK a;rw [Mm (by rw [yc,l];exact hf),Mm (by rw [l];exact h),Mm (by rw [l];exact h),if_neg ne];by_cases c1:b=flip a
 ·rw [if_pos c1,if_neg (λz=>ne (by rw [<-c1,z])),if_pos c1]
 ·rw [if_neg c1,if_neg c1]
noncomputable def fj (ts:List bX)(sp:List Int)(p:Nat):Nat->Int
 | 0=>0
 | i + 1=>fj ts sp p i + (match ts[i]? with
  | some x=>bP sp (2 * i + 1) * ((if x.t=p then 1 else 0) - (if x.h=p then 1 else 0))
  | none=>0)
theorem tZ {ts:List bX}{sp:List Int}{a p:Nat}{m:Int}(l:sp.length=2 * ts.length)(h:a < 2 * ts.length):∀ i,i<=ts.length->fj ts (bump sp a m) p i=fj ts sp p i + (if a / 2 < i then m * ((if hd ts a=p then 1 else 0) - (if tl ts a=p then 1 else 0)) else 0)
 | 0,_=>by show (0:Int)=0 + _;rw [if_neg (by omega)];rfl
 | i + 1,hi=>by
  obtain ⟨x,hx⟩:∃ x,ts[i]?=some x:=⟨_,zL (by omega)⟩;have ih:=tZ (m:=m) (p:=p) l h i (by omega);have e:∀ dM,fj ts dM p (i + 1)=fj ts dM p i + bP dM (2 * i + 1) * ((if x.t=p then 1 else 0) - (if x.h=p then 1 else 0)):=λdM=>by
   show fj ts dM p i + (match ts[i]? with | some x=>_ | none=>_)=_;rw [hx]
  obtain ⟨h1,h2⟩:=iM hx;obtain ⟨t1,t2⟩:=qR hx;rw [e,e,ih,mC l h];generalize fj ts sp p i=N;by_cases c1:2 * i + 1=a
  ·subst c1;rw [if_neg (show ¬ (2 * i + 1) / 2 < i by omega),if_pos (show 2 * i + 1=2 * i + 1 from rfl),if_pos (show (2 * i + 1) / 2 < i + 1 by omega),h2,t2];generalize (if x.t=p then (1:Int) else 0)=u;generalize (if x.h=p then (1:Int) else 0)=v;have:m * (v - u)=- (m * (u - v)):=by rw [<-Int.mul_neg];congr 1;omega
   rw [Int.sub_mul,this];omega
  ·rw [if_neg c1];by_cases c2:2 * i + 1=flip a
   ·have ea:a=2 * i:=by have:=congrArg flip c2;rw [flip_flip] at this;rw [<-this];unfold flip;rw [if_neg (by omega)];omega
    subst ea;have:flip (2 * i)=2 * i + 1:=c2.symm;rw [if_pos c2,this,if_neg (show ¬ 2 * i / 2 < i by omega),if_pos (show 2 * i / 2 < i + 1 by omega),h1,t1,Int.add_mul];generalize (if x.t=p then (1:Int) else 0) - (if x.h=p then (1:Int) else 0)=u;omega
   ·rw [if_neg c2];have n1:a≠2 * i:=λz=>c2 (by rw [z];unfold flip;rw [if_pos (by omega)]);by_cases c3:a / 2 < i
    ·rw [if_pos c3,if_pos (show a / 2 < i + 1 by omega)];omega
    ·rw [if_neg c3,if_neg (show ¬ a / 2 < i + 1 by omega)];omega
theorem N7 {ts:List bX}{sp:List Int}{a p:Nat}{m:Int}(l:sp.length=2 * ts.length)(h:a < 2 * ts.length):fj ts (bump sp a m) p ts.length=fj ts sp p ts.length + m * ((if hd ts a=p then 1 else 0) - (if tl ts a=p then 1 else 0)):=by rw [tZ l h _ (zD _),if_pos (by omega)]
noncomputable def aW (sp:List Int)(w:List Nat)(m:Int):List Int:=w.foldl (λsp a=>bump sp a m) sp
theorem jT {sp:List Int}{w:List Nat}{a:Nat}{m:Int}:aW sp (w++[a]) m=bump (aW sp w m) a m:=by unfold aW;rw [List.foldl_append];rfl
theorem iA {sp:List Int}{m:Int}:∀ {w:List Nat},(aW sp w m).length=sp.length:=by
 intro w;induction w generalizing sp with
 | nil=>rfl
 | cons a w ih=>show (aW (bump sp a m) w m).length=_;rw [ih,oM]
inductive i7 (ts:List bX) (g:Nat):List Nat->Nat->Prop where
 | nil:i7 ts g [] g
 | snoc {w:List Nat}{a:Nat}:i7 ts g w (hd ts a)->i7 ts g (w++[a]) (tl ts a)
theorem MV {ts:List bX}{sp:List Int}{g c p:Nat}{w:List Nat}{m:Int}(l:sp.length=2 * ts.length)(b:i7 ts g w c)(hw:∀ a∈w,a < 2 * ts.length):fj ts (aW sp w m) p ts.length=fj ts sp p ts.length + m * ((if g=p then 1 else 0) - (if c=p then 1 else 0)):=by
 induction b with
 | nil=>show fj ts sp p _=_;rw [Int.sub_self,xY,Int.add_zero]
 | @snoc w a b ih=>
  have ih:=ih λx hx=>hw x (zd _ hx);rw [jT,N7 (by rw [iA];exact l) (hw a (zK _ (.head _))),ih];generalize (if g=p then (1:Int) else 0)=u;generalize (if hd ts a=p then (1:Int) else 0)=v;generalize (if tl ts a=p then (1:Int) else 0)=z;have:m * (u - z)=m * (u - v) + m * (v - z):=by rw [<-Int.mul_add];congr 1;omega
  rw [this];omega
theorem QW {sp:List Int}{n a b:Nat}{m:Int}(l:sp.length=2 * n)(h:a < 2 * n)(m0:0<=m):bP sp b - (if b=a then m else 0)<=bP (bump sp a m) b:=by
 rw [mC l h];by_cases c:b=a
 ·subst c;rw [if_pos rfl,if_pos rfl];exact zp _
 ·rw [if_neg c,if_neg c];split
  ·rename_i c2;rw [<-c2];omega
  ·omega
theorem lI {n:Nat}{m:Int}(m0:0<=m):∀ {w:List Nat}{sp:List Int}{b:Nat},sp.length=2 * n->(∀ a∈w,a < 2 * n)->w.Nodup->bP sp b - (if b∈w then m else 0)<=bP (aW sp w m) b
 | [],sp,b,_,_,_=>by show bP sp b - _<=bP sp b;rw [if_neg (by simp)];omega
 | a::w,sp,b,l,hw,nd=>by
  have nd:=zk.mp nd;have h1:=lI (w:=w) (sp:=bump sp a m) (b:=b) m0 (by rw [oM];exact l) (λx hx=>hw x (.tail _ hx)) nd.2;have h2:=QW (b:=b) l (hw a (.head _)) m0;have e:aW sp (a::w) m=aW (bump sp a m) w m:=rfl;rw [e];by_cases c:b=a
  ·subst c;rw [if_pos (z8 ..)];rw [if_pos rfl] at h2;rw [if_neg nd.1] at h1;omega
  ·rw [if_neg c] at h2;by_cases d:b∈w
   ·rw [if_pos (zc _ d)];rw [if_pos d] at h1;omega
   ·rw [if_neg (by simp [c,d])];rw [if_neg d] at h1;omega
theorem QV {sp:List Int}{n a k:Nat}{m:Int}(l:sp.length=2 * n)(h:a < 2 * n):bP (bump sp a m) (2 * k) + bP (bump sp a m) (2 * k + 1)=bP sp (2 * k) + bP sp (2 * k + 1):=by
 rw [mC l h,mC l h];have f1:flip (2 * k)=2 * k + 1:=by unfold flip;rw [if_pos (by omega)]
 have f2:flip (2 * k + 1)=2 * k:=by unfold flip;rw [if_neg (by omega)];omega
 by_cases c1:2 * k=a
 ·subst c1;rw [if_pos rfl,if_neg (show ¬ 2 * k + 1=2 * k by omega),f1,if_pos rfl];omega
 ·by_cases c2:2 * k + 1=a
  ·subst c2;rw [if_neg c1,f2,if_pos rfl,if_pos rfl];omega
  ·rw [if_neg c1,if_neg c2,if_neg (λz=>c2 (by rw [<-flip_flip a,<- z,f1])),if_neg (λz=>c1 (by rw [<-flip_flip a,<- z,f2]))]
theorem lH {n k:Nat}{m:Int}:∀ {w:List Nat}{sp:List Int},sp.length=2 * n->(∀ a∈w,a < 2 * n)->bP (aW sp w m) (2 * k) + bP (aW sp w m) (2 * k + 1)=bP sp (2 * k) + bP sp (2 * k + 1)
 | [],_,_,_=>rfl
 | a::w,sp,l,hw=>by
  have e:aW sp (a::w) m=aW (bump sp a m) w m:=rfl;rw [e,lH (by rw [oM];exact l) (λx hx=>hw x (.tail _ hx)),QV l (hw a (.head _))]
theorem Sound.way {ts:List bX}{sp:List Int}{w:List Nat}{m:Int}(s:Sound ts sp)(m0:0<=m)(hw:∀ a∈w,a < 2 * ts.length/\m<=bP sp a)(nd:w.Nodup):Sound ts (aW sp w m):=by
 refine ⟨by rw [iA];exact s.len,λb hb=>?_,λk x hx=>?_⟩
 ·have:=lI (b:=b) m0 s.len (λa ha=>(hw a ha).1) nd;by_cases c:b∈w
  ·rw [if_pos c] at this;have:=(hw b c).2;omega
  ·rw [if_neg c] at this;have:=s.pos b hb;omega
 ·rw [lH s.len λa ha=>(hw a ha).1];exact s.sum k x hx
noncomputable def Wn (ts:List bX):Nat->Int
 | 0=>0
 | i + 1=>Wn ts i + (match ts[i]? with | some x=>x.m | none=>0)
theorem MY {ts:List bX}{sp:List Int}(s:Sound ts sp)(p:Nat):∀ i,i<=ts.length->fj ts sp p i<=Wn ts i
 | 0,_=>zp _
 | i + 1,hi=>by
  obtain ⟨x,hx⟩:∃ x,ts[i]?=some x:=⟨_,zL (by omega)⟩;have ih:=MY s p i (by omega);show fj ts sp p i + (match ts[i]? with | some x=>_ | none=>_)<=Wn ts i + (match ts[i]? with | some x=>_ | none=>_);rw [hx];dsimp only;have h1:=s.pos (2 * i) (by omega);have h2:=s.pos (2 * i + 1) (by omega);have h3:=s.sum i x hx;generalize bP sp (2 * i + 1)=y at h2 h3 ⊢;have:y * ((if x.t=p then 1 else 0) - (if x.h=p then 1 else 0))<=y:=by
   split <;> split <;> simp <;> omega
  omega
structure cH (ts:List bX) (sp:List Int) (n src:Nat) (tree:List (Nat×Option Nat)):Prop where
 root:tree[0]?=some (src,none)
 ZM:(tree.map (·.1)).Nodup
 ins:∀ x∈tree,x.1 < n
 arc:∀ (i:Nat) x,tree[i]?=some x->0 < i->∃ a,x.2=some a/\a < 2 * ts.length/\hd ts a=x.1/\0 < bP sp a/\∃ j y,j < i/\tree[j]?=some y/\y.1=tl ts a
noncomputable def bW (ts:List bX)(sp:List Int)(cO:List Nat)(p:Nat):Prop:=∀ a,a < 2 * ts.length->tl ts a=p->0 < bP sp a->hd ts a∈cO
noncomputable def cF (tree:List (Nat×Option Nat)):List (Key×V):=tree.map λx=>(Sum.inl (x.1:Int),oV (x.2.map λa=>(a:Int)))
structure fh (C:Addr) (H:Hp) (x dx lA lE lS:Addr) (as:List Addr) (src:Int) (f:Nat->List Int) (es sp:List Int):Prop where
 ins:H x=some (.ins C dx [("source", .int src),("arcs", .ref lA),("ends", .ref lE),("spare", .ref lS)])
 lU:H lA=some (.lst (as.map V.ref))
 rws:∀ (p:Nat) (a:Addr),as[p]?=some a->H a=some (.lst ((f p).map V.int))
 ends:H lE=some (.lst (es.map V.int))
 jc:H lS=some (.lst (sp.map V.int))
 nd:(lA::lE::lS::as).Nodup
structure lW (C:Addr) (H:Hp) (x dx lA lE lS:Addr) (as:List Addr) (src:Int) (n:Nat) (ts:List bX) (sp:List Int):Prop where
 raw:fh C H x dx lA lE lS as src (λp=>bS ts p ts.length) (ck ts) sp
 len:as.length=n
 Ry:∀ t∈ts,t.h < n/\t.t < n
 snd:Sound ts sp
 sz:n<=3000/\ts.length<=3000
noncomputable def bf (M:List Addr)(H H':Hp):Prop:=∀ b u,b ∉ M->H b=some u->H' b=some u
theorem aB.uf {M:List Addr}{H H':Hp}(s:aB H H'):bf M H H':=λb u _ e=>s b u e
theorem bf.trans {M:List Addr}{H H1 H2:Hp}(a:bf M H H1)(b:bf M H1 H2):bf M H H2:=λc u n e=>b c u n (a c u n e)
theorem bf.upd {M:List Addr}{H:Hp}{p:Addr}{o:HO}(h:p∈M):bf M H (upd H p o):=λb u n e=>by rw [xj (λz=>n (by rw [z];exact h))];exact e
theorem bf.sub {M N:List Addr}{H H':Hp}(a:bf M H H')(s:∀ x∈M,x∈N):bf N H H':=λb u n e=>a b u (λz=>n (s b z)) e
section
variable {C:Addr}{H H':Hp}{x dx lA lE lS:Addr}{as:List Addr}{src:Int}{f:Nat->List Int}{es sp:List Int}{n:Nat}{ts:List bX}
theorem fh.same (a:fh C H x dx lA lE lS as src f es sp)(s:aB H H'):fh C H' x dx lA lE lS as src f es sp:=
 ⟨s _ _ a.ins,s _ _ a.lU,λp r hr=>s _ _ (a.rws p r hr),s _ _ a.ends,s _ _ a.jc,a.nd⟩
theorem lW.same (a:lW C H x dx lA lE lS as src n ts sp)(s:aB H H'):lW C H' x dx lA lE lS as src n ts sp:=⟨a.raw.same s,a.len,a.Ry,a.snd,a.sz⟩
theorem fh.nx (a:fh C H x dx lA lE lS as src f es sp):x ∉ lA::lE::lS::as:=by
 intro h;have hx:=a.ins;rcases zH.mp h with rfl | h
 ·rw [a.lU] at hx;cases hx
 rcases zH.mp h with rfl | h
 ·rw [a.ends] at hx;cases hx
 rcases zH.mp h with rfl | h
 ·rw [a.jc] at hx;cases hx
 obtain ⟨i,hi⟩:=zx h;rw [a.rws i _ hi] at hx;cases hx
theorem fh.ns (a:fh C H x dx lA lE lS as src f es sp):lA≠lE/\lA≠lS/\lA ∉ as/\lE≠lS/\lE ∉ as/\lS ∉ as/\as.Nodup:=by have h1:=zk.mp a.nd;have h2:=zk.mp h1.2;have h3:=zk.mp h2.2;simp only [zH,not_or] at h1 h2;exact ⟨h1.1.1,h1.1.2.1,h1.1.2.2,h2.1.1,h2.1.2,h3.1,h3.2⟩
theorem tS {α:Type}{as:List α}(nd:as.Nodup){i j:Nat}{a:α}(hi:as[i]?=some a)(hj:as[j]?=some a):i=j:=by
 obtain ⟨h1,e1⟩:=zC.mp hi;obtain ⟨h2,e2⟩:=zC.mp hj;have pw:=zw.mp nd;rcases Nat.lt_trichotomy i j with c | c | c
 ·exact absurd (e1.trans e2.symm) (pw i j h1 h2 c)
 ·exact c
 ·exact absurd (e2.trans e1.symm) (pw j i h2 h1 c)
theorem jf {a b:Addr}{l:List Addr}(ha:a ∉ l)(hb:b∈l):a≠b:=λe=>ha (by rw [e];exact hb)
theorem fh.app (a:fh C H x dx lA lE lS as src f es sp){h:Nat}{l:Addr}{z:Int}(hl:as[h]?=some l):fh C (upd H l (.lst ((f h).map V.int++[V.int z]))) x dx lA lE lS as src (λp=>f p++if h=p then [z] else []) es sp:=by
 obtain ⟨n1,n2,n3,n4,n5,n6,n7⟩:=a.ns;have m:=zB hl;have nx:=a.nx;simp only [zH,not_or] at nx;refine ⟨by rw [xj (jf nx.2.2.2 m)];exact a.ins,by rw [xj (jf n3 m)];exact a.lU,λp b hb=>?_,by rw [xj (jf n5 m)];exact a.ends,by rw [xj (jf n6 m)];exact a.jc,a.nd⟩;by_cases c:h=p
 ·subst c;obtain rfl:l=b:=by rw [hl] at hb;exact Option.some.inj hb
  rw [xb];show _=some (HO.lst (List.map V.int (f h++if h=h then [z] else [])));rw [if_pos rfl,zI];rfl
 ·have:b≠l:=λe=>c (by
   subst e;exact tS n7 hl hb)
  rw [xj this];show _=some (HO.lst (List.map V.int (f p++if h=p then [z] else [])));rw [if_neg c,zq];exact a.rws p b hb
theorem fh.Zy (a:fh C H x dx lA lE lS as src f es sp){es':List Int}:fh C (upd H lE (.lst (es'.map V.int))) x dx lA lE lS as src f es' sp:=by obtain ⟨n1,n2,n3,n4,n5,n6,n7⟩:=a.ns;have nx:=a.nx;simp only [zH,not_or] at nx;exact ⟨by rw [xj nx.2.1];exact a.ins,by rw [xj n1];exact a.lU,λp b hb=>by rw [xj (Ne.symm (jf n5 (zB hb)))];exact a.rws p b hb,xb,by rw [xj (Ne.symm n4)];exact a.jc,a.nd⟩
theorem fh.Uz (a:fh C H x dx lA lE lS as src f es sp){dM:List Int}:fh C (upd H lS (.lst (dM.map V.int))) x dx lA lE lS as src f es dM:=by obtain ⟨n1,n2,n3,n4,n5,n6,n7⟩:=a.ns;have nx:=a.nx;simp only [zH,not_or] at nx;exact ⟨by rw [xj nx.2.2.1];exact a.ins,by rw [xj n2];exact a.lU,λp b hb=>by rw [xj (Ne.symm (jf n6 (zB hb)))];exact a.rws p b hb,by rw [xj n4];exact a.ends,xb,a.nd⟩
theorem fh.Uy (a:fh C H x dx lA lE lS as src f es sp){src':Int}:fh C (upd H x (.ins C dx [("source", .int src'),("arcs", .ref lA),("ends", .ref lE),("spare", .ref lS)])) x dx lA lE lS as src' f es sp:=by have nx:=a.nx;simp only [zH,not_or] at nx;exact ⟨xb,by rw [xj (Ne.symm nx.1)];exact a.lU,λp b hb=>by rw [xj (Ne.symm (jf nx.2.2.2 (zB hb)))];exact a.rws p b hb,by rw [xj (Ne.symm nx.2.1)];exact a.ends,by rw [xj (Ne.symm nx.2.2.1)];exact a.jc,a.nd⟩
end
noncomputable def RL (C:Addr):Sp:=λvs H Q _=>∃ x dx,∃ n:Nat,vs=[.ref x,.int (n:Int)]/\H x=some (.ins C dx [])/\n<=3000 /\
 ∀ lA lE lS as H',bY x H H'->lW C H' x dx lA lE lS as 0 n [] []->(∀ b∈lA::lE::lS::as,H b=none)->Q .cI H'
noncomputable def Uo (C:Addr):Sp:=λvs H Q _=>∃ x dx lA lE lS as src n ts sp,∃ h t:Nat,∃ m:Int,vs=[.ref x,.int (h:Int),.int (t:Int),.int m]/\lW C H x dx lA lE lS as src n ts sp/\h < n/\t < n/\0<=m/\ts.length < 3000 /\
 ∀ H',bf (x::lE::lS::as) H H'->lW C H' x dx lA lE lS as src n (ts++[⟨h,t,m⟩]) (sp++[m,0])->Q (.int (ts.length:Int)) H'
noncomputable def RE (C:Addr):Sp:=λvs H Q _=>∃ x dx lA lE lS as src n ts sp,∃ k:Nat,vs=[.ref x,.int (k:Int)]/\lW C H x dx lA lE lS as src n ts sp/\k < ts.length/\Q (.int (bP sp (2 * k + 1))) H
noncomputable def cO (tree:List (Nat×Option Nat)):List Nat:=tree.map (·.1)
noncomputable def RM (C:Addr):Sp:=λvs H Q _=>∃ x dx lA lE lS as,∃ src:Nat,∃ n ts sp,∃ g:Option Nat,vs=[.ref x,oV (g.map λz=>(z:Int))]/\lW C H x dx lA lE lS as (src:Int) n ts sp/\src < n /\
 ∀ d tree H',aB H H'->H d=none->H' d=some (.dK (cF tree))->cH ts sp n src tree->((∀ z,g=some z->z ∉ cO tree)->∀ p∈cO tree,bW ts sp (cO tree) p)->Q (.ref d) H'
noncomputable def Pk (C:Addr):Sp:=λvs H Q _=>∃ x dx lA lE lS as,∃ src:Nat,∃ n ts sp d tree,∃ g:Nat,vs=[.ref x,.ref d,.int (g:Int)]/\lW C H x dx lA lE lS as (src:Int) n ts sp/\H d=some (.dK (cF tree))/\cH ts sp n src tree/\g∈cO tree/\g≠src /\
 ∀ m w H',0 < m->i7 ts g w src->(∀ a∈w,a < 2 * ts.length/\m<=bP sp a)->w.Nodup->bf [lS] H H'->lW C H' x dx lA lE lS as (src:Int) n ts (aW sp w m)->Q (.int m) H'
noncomputable def RG (C:Addr):Sp:=λvs H Q _=>∃ x dx lA lE lS as WL n ts sp,∃ s g:Nat,vs=[.ref x,.int (s:Int),.int (g:Int)]/\lW C H x dx lA lE lS as WL n ts sp/\s < n/\g < n/\s≠g /\
 ∀ tot dM tree H',bf [x,lS] H H'->lW C H' x dx lA lE lS as (s:Int) n ts dM->0<=tot->(∀ p,fj ts dM p ts.length=fj ts sp p ts.length + tot * ((if g=p then 1 else 0) - (if s=p then 1 else 0)))->cH ts dM n s tree->g ∉ cO tree->(∀ p∈cO tree,bW ts dM (cO tree) p)->Q (.int tot) H'
end Sm
namespace L2
open PySem PySem.Spec PyProof.Rows
theorem jG {X:Cx}{K:PySem.W.Frag}{e:Expr}{f:Str}{pos:Pos}{ta:TE}(hK:X.K=K)(he:PE X e ta)(hb:attributeBase e f X.env (eval e X.env)=eval e X.env):PE X (.Attribute e f pos) (WD K ta f):=by subst hK;exact e8 he hb
section
variable {n:Nat}{caps:List Nat}{g:TG}{tc:TT}{te:TE}{σ:St}{H:Hp}{Qf:Addr->Hp->List V->Prop}
theorem uG {lo:Int}{m:Nat}(Pv:Nat->St->List V->Hp->Prop)(h0:Pv 0 (d9 n caps σ) [] H)(hn:m<=200000)(hl:∀ i τ acc H,Pv i τ acc H->acc.length<=i)
  (hs:∀ i τ acc H (C:St->List V->Hp->Prop),i < m->Pv i τ acc H->(∀ τ acc H,Pv (i + 1) τ acc H->C τ acc H)->g (.int (lo + i)) τ H fun bT H2=>tc bT H2 λb H3=>if b=true then te bT H3 λy H4=>C bT (acc++[y]) H4 else C bT acc H3)
  (hd:∀ τ acc H,Pv m τ acc H->∀ p,H p=none->Qf p H acc) :
  ∃ W:Nat->Nat->St->List V->Hp->Prop,(∃ m,W 0 m (d9 n caps σ) [] H)/\∀ i m' τ acc H,W i m' τ acc H ->
   ((Mu lo m).stop i H/\acc.length<=sizeLine/\∀ p,H p=none->Qf p H acc) \/
   ((Mu lo m).go i H/\acc.length < sizeLine/\∀ x H',(Mu lo m).sM i H x H'->g x τ H' fun bT H2=>tc bT H2 λb H3=>if b=true then te bT H3 λy H4=>∃ Qd,Qd < m'/\W (i + 1) Qd bT (acc++[y]) H4 else ∃ Qd,Qd < m'/\W (i + 1) Qd bT acc H3):=
 uH (J:=Mu lo m) Pv m h0 hn hl (λi τ acc H hi p=>hi) (fun τ acc H p=>zD _)
  (λi τ acc H C hi p c x H' y=>by obtain ⟨e1,e2⟩:=y;subst e1;subst e2;exact hs i τ acc _ C hi p c) hd
end
end L2
namespace Sm
open PySem L2 aZ
theorem lK {ts:List bX}{x:bX}{p:Nat}:∀ i,i<=ts.length->bS (ts++[x]) p i=bS ts p i
 | 0,_=>rfl
 | i + 1,hi=>by
  unfold bS;rw [lK i (by omega),zU (by omega)]
theorem Mp {ts:List bX}{x:bX}{p:Nat}:bS (ts++[x]) p (ts++[x]).length=bS ts p ts.length++((if x.h=p then [((2 * ts.length:Nat):Int)] else [])++(if x.t=p then [((2 * ts.length + 1:Nat):Int)] else [])):=by
 rw [zE];show bS _ _ (ts.length + 1)=_
 conv=>lhs;unfold bS
 rw [lK _ (zD _),zY (zD _),xD];rfl
theorem uA {ts:List bX}{x:bX}:ck (ts++[x])=ck ts++[(x.t:Int),(x.h:Int)]:=by unfold ck;rw [List.flatMap_append];rfl
theorem sd {sp:List Int}{a:Nat}{zs:List Int}(h:a < sp.length):bP (sp++zs) a=bP sp a:=by unfold bP;rw [zU h]
theorem Sound.snoc {ts:List bX}{sp:List Int}{x:bX}(s:Sound ts sp)(m0:0<=x.m):Sound (ts++[x]) (sp++[x.m,0]):=by
 have l:=s.len;have e0:bP (sp++[x.m,0]) (2 * ts.length)=x.m:=by unfold bP;rw [zY (by omega),l,xD];rfl
 have e1:bP (sp++[x.m,0]) (2 * ts.length + 1)=0:=by unfold bP;rw [zY (by omega),l,show 2 * ts.length + 1 - 2 * ts.length=1 by omega];rfl
 refine ⟨by rw [zE,zE,l];show _ + 2=2 * (_ + 1);omega,λa ha=>?_,λk y hy=>?_⟩
 ·rw [zE] at ha;have ha:a < 2 * (ts.length + 1):=ha;by_cases c:a < 2 * ts.length
  ·rw [sd (by omega)];exact s.pos a c
  ·rcases (by omega:a=2 * ts.length\/a=2 * ts.length + 1) with rfl | rfl
   ·rw [e0];exact m0
   ·rw [e1];exact zp _
 ·by_cases c:k < ts.length
  ·rw [zU c] at hy;rw [sd (by omega),sd (by omega)];exact s.sum k y hy
  ·have hk:k < (ts++[x]).length:=(zC.mp hy).1;rw [zE] at hk;have:k=ts.length:=by have:k < ts.length + 1:=hk;omega
   subst this;rw [zY (zD _),xD] at hy;cases hy;rw [e0,e1];omega
theorem jg {xs:List Int}{a:Nat}{z:Int}(h:xs[a]?=some z):(xs.map V.int)[a]?=some (V.int z):=by rw [zS,h];rfl
theorem jU {sp:List Int}{a:Nat}(h:a < sp.length):sp[a]?=some (bP sp a):=by unfold bP;rw [zL h];rfl
theorem ua {xs:List Int}{a:Nat}{z:Int}:(xs.map V.int).set a (.int z)=(xs.set a z).map V.int:=by rw [List.map_set]
theorem jm {ts:List bX}{p:Nat}:∀ i,(bS ts p i).length<=2 * i
 | 0=>zD _
 | i + 1=>by
  have ih:=jm (ts:=ts) (p:=p) i;unfold bS;rw [zE];split
  ·rw [zE];split <;> split <;> simp <;> omega
  ·simp;omega
theorem mL {p:Nat}:∀ {tree:List (Nat×Option Nat)},p ∉ cO tree->cS (cF tree) (Sum.inl (p:Int))=none
 | [],_=>rfl
 | x::tree,h=>by
  have h1:¬ x.1=p:=λz=>h (by rw [<-z];exact .head _);have e:cF (x::tree)=(Sum.inl (x.1:Int),oV (x.2.map λa=>(a:Int)))::cF tree:=rfl;rw [e,wc (λz=>h1 (by injection z with z;exact Int.ofNat.inj z))];exact mL λz=>h (.tail _ z)
theorem mK:∀ {tree:List (Nat×Option Nat)}{i p:Nat}{o:Option Nat},(cO tree).Nodup->tree[i]?=some (p,o)->cS (cF tree) (Sum.inl (p:Int))=some (oV (o.map λa=>(a:Int)))
 | [],i,p,o,_,h=>by cases h
 | x::tree,0,p,o,_,h=>by cases h;exact wf rfl
 | x::tree,i + 1,p,o,nd,h=>by
  have e:cF (x::tree)=(Sum.inl (x.1:Int),oV (x.2.map λa=>(a:Int)))::cF tree:=rfl;have nd:(x.1::cO tree).Nodup:=nd;have nd:=zk.mp nd;have h:tree[i]?=some (p,o):=h;have hm:p∈cO tree:=zP.mpr ⟨_,zB h,rfl⟩;rw [e,wc (λz=>nd.1 (by injection z with z;rw [Int.ofNat.inj z];exact hm))];exact mK nd.2 h
theorem kh {p:Nat}{tree:List (Nat×Option Nat)}(nd:(cO tree).Nodup):(cS (cF tree) (Sum.inl (p:Int))).isSome=decide (p∈cO tree):=by
 by_cases c:p∈cO tree
 ·obtain ⟨x,hx,rfl⟩:=zP.mp c;obtain ⟨i,hi⟩:=zx hx;rw [mK (o:=x.2) nd hi,decide_eq_true c];rfl
 ·rw [mL c,decide_eq_false c];rfl
theorem O2 {p a:Nat}{tree:List (Nat×Option Nat)}(h:p ∉ cO tree):putK (cF tree) (Sum.inl (p:Int)) (.int (a:Int))=cF (tree++[(p,some a)]):=by unfold putK;rw [L2.fq,mL h,if_neg (by decide)];unfold cF;rw [zI];rfl
theorem jD {tree:List (Nat×Option Nat)}{p:Nat}{o:Option Nat}:cO (tree++[(p,o)])=cO tree++[p]:=by unfold cO;rw [zI];rfl
theorem N5 {n:Nat}{l:List Nat}(nd:l.Nodup)(h:∀ x∈l,x < n):l.length<=n:=by
 have:=qb (xs:=l.map λx:Nat=>(x:Int)) (ys:=(List.range n).map λx:Nat=>(x:Int)) (yO.mpr (nd.imp λh e=>h (Int.ofNat_inj.mp e))) λx hx=>by
  obtain ⟨y,hy,rfl⟩:=zP.mp hx;exact zP.mpr ⟨y,zm.mpr (h y hy),rfl⟩
 rwa [zA,zA,yE] at this
theorem cH.snoc {ts:List bX}{sp:List Int}{n src:Nat}{tree:List (Nat×Option Nat)}(k:cH ts sp n src tree){a p:Nat}(ha:a < 2 * ts.length)(hp:p ∉ cO tree)(pn:p < n)(he:hd ts a=p)(h0:0 < bP sp a)(Rk:tl ts a∈cO tree):cH ts sp n src (tree++[(p,some a)]):=by
 have L3:0 < tree.length:=(zC.mp k.root).1;refine ⟨by rw [zU L3];exact k.root,?_,λx hx=>?_,λi x hx hi=>?_⟩
 ·have:=jD (tree:=tree) (p:=p) (o:=some a);unfold cO at this hp;rw [this];exact List.nodup_append.mpr ⟨k.ZM,zk.mpr ⟨by simp,.nil⟩,λb hb c hc=>by rw [zF.mp hc];exact λz=>hp (z ▸ hb)⟩
 ·rcases zT.mp hx with h | h
  ·exact k.ins x h
  ·rw [zF.mp h];exact pn
 ·by_cases c:i < tree.length
  ·rw [zU c] at hx;obtain ⟨b,h1,h2,h3,h4,j,y,h5,h6,h7⟩:=k.arc i x hx hi;exact ⟨b,h1,h2,h3,h4,j,y,h5,by rw [zU (by omega)];exact h6,h7⟩
  ·have hl:=(zC.mp hx).1;rw [zE] at hl;have:i=tree.length:=by have:i < tree.length + 1:=hl;omega
   subst this;rw [zY (zD _),xD] at hx;cases hx;obtain ⟨y,hy,ey⟩:=zP.mp Rk;obtain ⟨j,hj⟩:=zx hy;have jl:=(zC.mp hj).1;exact ⟨a,rfl,ha,he,h0,j,y,jl,by rw [zU jl];exact hj,ey⟩
theorem cH.nd {ts:List bX}{sp:List Int}{n src:Nat}{tree:List (Nat×Option Nat)}(k:cH ts sp n src tree):(cO tree).Nodup:=k.ZM
theorem Qn {c:Bool}{A B:Prop}(h1:c=true->A)(h0:c=false->B):if c=true then A else B:=by
 cases c
 ·exact h0 rfl
 ·exact h1 rfl
structure jX (H H5:Hp) (d l:Addr) (ts:List bX) (sp:List Int) (n src:Nat) (tree:List (Nat×Option Nat)):Prop where
 sm:aB H H5
 fd:H d=none
 fl:H l=none
 ne:d≠l
 hd:H5 d=some (.dK (cF tree))
 hl:H5 l=some (.lst ((cO tree).map λp:Nat=>V.int (p:Int)))
 tk:cH ts sp n src tree
theorem jX.add {H H5:Hp}{d l:Addr}{ts:List bX}{sp:List Int}{n src:Nat}{tree:List (Nat×Option Nat)}{p a:Nat}(c:jX H H5 d l ts sp n src tree)(tk:cH ts sp n src (tree++[(p,some a)])):jX H (upd (upd H5 d (.dK (cF (tree++[(p,some a)])))) l (.lst (((cO tree).map λp:Nat=>V.int (p:Int))++[V.int (p:Int)]))) d l ts sp n src (tree++[(p,some a)]):=
 ⟨aB.put c.fl (aB.put c.fd c.sm),c.fd,c.fl,c.ne,by rw [xj c.ne];exact xb,by rw [xb,jD,zI];rfl,tk⟩
theorem cH.len {ts:List bX}{sp:List Int}{n src:Nat}{tree:List (Nat×Option Nat)}(k:cH ts sp n src tree):tree.length<=n:=by
 have:=N5 k.nd λx hx=>by obtain ⟨y,hy,rfl⟩:=zP.mp hx;exact k.ins y hy
 unfold cO at this;rwa [zA] at this
theorem O3 {ts:List bX}{sp:List Int}{n src:Nat}(h:src < n):cH ts sp n src [(src,none)]:=
 ⟨rfl,zk.mpr ⟨by simp,.nil⟩,λx hx=>by rw [zF.mp hx];exact h,λi x hx hi=>by
  match i,hi with
  | i + 1,_=>cases hx⟩
theorem bW.more {ts:List bX}{sp:List Int}{ps qs:List Nat}{p:Nat}(c:bW ts sp ps p)(h:∀ x∈ps,x∈qs):bW ts sp qs p:=λa h1 h2 h3=>h _ (c a h1 h2 h3)
theorem i7.pos {ts:List bX}{g c:Nat}{w:List Nat}(b:i7 ts g w c)(h:g≠c):0 < w.length:=by
 cases b with
 | nil=>exact absurd rfl h
 | snoc b=>rw [zE];exact Nat.succ_pos _
theorem XS {ts:List bX}{n a:Nat}(Ry:∀ t∈ts,t.h < n/\t.t < n)(h:a < 2 * ts.length):hd ts a < n:=by
 obtain ⟨k,x,hx,rfl | rfl⟩:=OE h
 ·rw [(iM hx).1];exact (Ry x (zB hx)).2
 ·rw [(iM hx).2];exact (Ry x (zB hx)).1
noncomputable def sX (L:L4)(M:M4):Prop:=L.a < M.t/\L.s≠L.w/\(M.lo=(L.s:Int)\/M.hi=(L.s:Int))/\(M.lo=(L.w:Int)\/M.hi=(L.w:Int))
instance (L:L4) (M:M4):Decidable (sX L M):=by unfold sX;infer_instance
section
variable {af:List Int}{ms:List M4}{ls:List (Addr×L4)}{d:Ym}{m j:Nat}{s:RS}{M:M4}{L:Addr×L4}{o:Option (Nat×Int)}
end
end Sm
namespace L2
open PySem PySem.Spec PyProof.Rows
end L2
namespace Sm
open PySem L2 aZ
noncomputable def jc (ts:List bX):List Int:=ts.flatMap λt=>[t.m,0]
theorem sY {ts:List bX}{x:bX}:jc (ts++[x])=jc ts++[x.m,0]:=by unfold jc;rw [List.flatMap_append];rfl
theorem MB:∀ (ts:List bX) (k:Nat),bP (jc ts) (2 * k + 1)=0
 | [],k=>by unfold bP jc;simp
 | x::ts,0=>rfl
 | x::ts,k + 1=>by
  have ih:=MB ts k;have e:jc (x::ts)=[x.m,0]++jc ts:=rfl;rw [e];have:bP ([x.m,0]++jc ts) (2 * (k + 1) + 1)=bP (jc ts) (2 * k + 1):=rfl;rw [this];exact ih
theorem MW {ts:List bX}{p:Nat}:∀ i,fj ts (jc ts) p i=0
 | 0=>rfl
 | i + 1=>by
  show fj ts (jc ts) p i + (match ts[i]? with | some x=>_ | none=>_)=_;rw [MW i,MB];split
  ·rw [Int.zero_mul];rfl
  ·rfl
section
variable {H H5 H6:Hp}{l:Addr}{n m:Nat}{rows:List (Addr×bX)}{p:Addr}
end
theorem bf.same {M:List Addr}{H H1 H2:Hp}(s:aB H H1)(k:bf M H1 H2)(f:∀ b∈M,H b=none):aB H H2:=λb u e=>k b u (λh=>by rw [f b h] at e;cases e) (s b u e)
theorem N8 {H H':Hp}{x dx C:Addr}(fx:H x=none)(fd:H dx=none)(b:bY x (upd (upd H dx (.own x)) x (.ins C dx [])) H'):aB H H':=λc u e=>b c u (xh e fx) (by rw [xj (xh e fx),xj (xh e fd)];exact e)
theorem N9 {H:Hp}{x dx b:Addr}{o o':HO}(h:upd (upd H dx o) x o' b=none):H b=none:=by
 by_cases c1:b=x
 ·subst c1;rw [xb] at h;cases h
 ·rw [xj c1] at h;by_cases c2:b=dx
  ·subst c2;rw [xb] at h;cases h
  ·rwa [xj c2] at h
theorem jJ {ts:List bX}{sp:List Int}{i:Nat}{x:bX}(hx:ts[i]?=some x)(p:Nat):fj ts sp p (i + 1)=fj ts sp p i + bP sp (2 * i + 1) * ((if x.t=p then 1 else 0) - (if x.h=p then 1 else 0)):=by show fj ts sp p i + (match ts[i]? with | some x=>_ | none=>_)=_;rw [hx]
theorem kZ {ts:List bX}{sp:List Int}(s:Sound ts sp){k:Nat}{x:bX}(hx:ts[k]?=some x):0<=bP sp (2 * k + 1)/\bP sp (2 * k + 1)<=x.m:=by have hk:=(zC.mp hx).1;have h1:=s.pos (2 * k) (by omega);have h2:=s.pos (2 * k + 1) (by omega);have h3:=s.sum k x hx;omega
theorem cH.src {ts:List bX}{sp:List Int}{n src:Nat}{tree:List (Nat×Option Nat)}(k:cH ts sp n src tree):src∈cO tree:=zP.mpr ⟨_,zB k.root,rfl⟩
noncomputable def eF (f:Nat->Int):List Nat->Int
 | []=>0
 | p::S=>f p + eF f S
theorem Po (f g:Nat->Int):∀ S,eF (λp=>f p + g p) S=eF f S + eF g S
 | []=>rfl
 | p::S=>by show f p + g p + eF _ S=f p + eF f S + (g p + eF g S);rw [Po f g S];omega
theorem vH (f g:Nat->Int):∀ S,eF (λp=>f p - g p) S=eF f S - eF g S
 | []=>rfl
 | p::S=>by show f p - g p + eF _ S=f p + eF f S - (g p + eF g S);rw [vH f g S];omega
theorem vI (c:Int)(f:Nat->Int):∀ S,eF (λp=>c * f p) S=c * eF f S
 | []=>by show (0:Int)=c * 0;rw [xY]
 | p::S=>by show c * f p + eF _ S=c * (f p + eF f S);rw [vI c f S,Int.mul_add]
theorem mW (t:Nat):∀ {S:List Nat},S.Nodup->eF (λp=>if t=p then 1 else 0) S=if t∈S then 1 else 0
 | [],_=>by rw [if_neg (by simp)];rfl
 | p::S,nd=>by
  have nd:=zk.mp nd;show (if t=p then (1:Int) else 0) + eF _ S=_;rw [mW t nd.2];by_cases c:t=p
  ·subst c;rw [if_pos rfl,if_neg nd.1,if_pos (z8 ..)];rfl
  ·rw [if_neg c];by_cases d:t∈S
   ·rw [if_pos d,if_pos (zc _ d)];rfl
   ·rw [if_neg d,if_neg (by simp [c,d])];rfl
theorem MF:∀ S,eF (λ_=>0) S=0
 | []=>rfl
 | p::S=>by show (0:Int) + eF _ S=0;rw [MF S];rfl
noncomputable def gJ (ts:List bX)(S:List Nat):Nat->Int
 | 0=>0
 | i + 1=>gJ ts S i + (match ts[i]? with | some x=>(if x.h∈S/\x.t ∉ S then x.m else 0) | none=>0)
theorem MX {ts:List bX}{sp:List Int}(s:Sound ts sp){S:List Nat}(nd:S.Nodup)(cl:∀ p∈S,bW ts sp S p):∀ i,i<=ts.length->eF (λp=>fj ts sp p i) S=- gJ ts S i
 | 0,_=>MF S
 | i + 1,hi=>by
  obtain ⟨x,hx⟩:∃ x,ts[i]?=some x:=⟨_,zL (by omega)⟩;have ih:=MX s nd cl i (by omega);have e:(λp=>fj ts sp p (i + 1))=λp=>fj ts sp p i + bP sp (2 * i + 1) * ((if x.t=p then 1 else 0) - (if x.h=p then 1 else 0)):=by funext p;exact jJ hx p
  have ec:gJ ts S (i + 1)=gJ ts S i + (if x.h∈S/\x.t ∉ S then x.m else 0):=by
   show gJ ts S i + (match ts[i]? with | some x=>_ | none=>_)=_;rw [hx]
  rw [e,Po,ih,vI,vH,mW _ nd,mW _ nd,ec];have h1:=s.pos (2 * i) (by omega);have h2:=s.pos (2 * i + 1) (by omega);have h3:=s.sum i x hx;obtain ⟨a1,a2⟩:=iM hx;obtain ⟨b1,b2⟩:=qR hx;by_cases c1:x.h∈S
  ·by_cases c2:x.t∈S
   ·rw [if_pos c2,if_pos c1,if_neg (λh=>h.2 c2)];omega
   ·rw [if_neg c2,if_pos c1,if_pos ⟨c1,c2⟩];have:¬ 0 < bP sp (2 * i):=λh=>c2 (by have:=cl _ c1 (2 * i) (by omega) b1 h;rwa [a1] at this);have:bP sp (2 * i + 1)=x.m:=by omega
    rw [this];omega
  ·rw [if_neg c1,if_neg (show ¬ (x.h∈S/\x.t ∉ S) from λh=>c1 h.1)];by_cases c2:x.t∈S
   ·rw [if_pos c2];have:¬ 0 < bP sp (2 * i + 1):=λh=>c1 (by have:=cl _ c2 (2 * i + 1) (by omega) b2 h;rwa [a2] at this);have:bP sp (2 * i + 1)=0:=by omega
    rw [this];omega
   ·rw [if_neg c2];omega
theorem SW {ts:List bX}{sp:List Int}(s:Sound ts sp){S:List Nat}(nd:S.Nodup)(cl:∀ p∈S,bW ts sp S p){tot:Int}{s0 g:Nat}(h0:s0∈S)(hg:g ∉ S)(nt:∀ p,fj ts sp p ts.length=tot * ((if g=p then 1 else 0) - (if s0=p then 1 else 0))):gJ ts S ts.length=tot:=by have:=MX s nd cl _ (zD _);have e:(λp=>fj ts sp p ts.length)=λp=>tot * ((if g=p then 1 else 0) - (if s0=p then 1 else 0)):=funext nt;rw [e,vI,vH,mW _ nd,mW _ nd,if_neg hg,if_pos h0] at this;omega
theorem lW.kept {C:Addr}{H H':Hp}{x dx lA lE lS:Addr}{as:List Addr}{src:Int}{n:Nat}{ts:List bX}{sp:List Int}{M:List Addr}(a:lW C H x dx lA lE lS as src n ts sp)(k:bf M H H')(f:∀ b∈x::lA::lE::lS::as,b ∉ M):lW C H' x dx lA lE lS as src n ts sp:=
 ⟨⟨k _ _ (f _ (.head _)) a.raw.ins,k _ _ (f _ (.tail _ (.head _))) a.raw.lU,λp r hr=>k _ _ (f _ (.tail _ (.tail _ (.tail _ (.tail _ (zB hr)))))) (a.raw.rws p r hr),k _ _ (f _ (.tail _ (.tail _ (.head _)))) a.raw.ends,k _ _ (f _ (.tail _ (.tail _ (.tail _ (.head _))))) a.raw.jc,a.raw.nd⟩,a.len,a.Ry,a.snd,a.sz⟩
theorem tN {C:Addr}{H:Hp}{x dx lA lE lS:Addr}{as:List Addr}{src:Int}{n:Nat}{ts:List bX}{sp:List Int}(a:lW C H x dx lA lE lS as src n ts sp):∀ b∈x::lA::lE::lS::as,H b≠none:=by
 intro b hb;rcases zH.mp hb with rfl | hb
 ·rw [a.raw.ins];exact λz=>by cases z
 rcases zH.mp hb with rfl | hb
 ·rw [a.raw.lU];exact λz=>by cases z
 rcases zH.mp hb with rfl | hb
 ·rw [a.raw.ends];exact λz=>by cases z
 rcases zH.mp hb with rfl | hb
 ·rw [a.raw.jc];exact λz=>by cases z
 obtain ⟨i,hi⟩:=zx hb;rw [a.raw.rws i _ hi];exact λz=>by cases z
structure Lay (N W:Nat) (lo hi:Nat->Nat) (wait:Nat->Nat->Int) (th bk:Nat->Int) (g:Nat->Option Nat) (j3 out:Nat->Nat->Int) (tot:Int) (a z s0 w0:Nat):Prop where
 ne:∀ i,i < N->lo i≠hi i/\lo i < W/\hi i < W
 pos:∀ i v,0<=wait i v
 gv:∀ i,i < N->(g i=none/\th i=bk i/\0<=th i)\/(g i=some (lo i)/\th i=1/\bk i=0)\/(g i=some (hi i)/\th i=0/\bk i=1)
 Sj:∀ i v,i < N->v < W->wait i v + (if v=hi i then th i else 0) + (if v=lo i then bk i else 0)<=j3 (i + 1) v
 PZ:∀ i v,i < N->v < W->out i v=wait i v + (if v=lo i then th i else 0) + (if v=hi i then bk i else 0)
 last:∀ v,v < W->out N v=0
 V4:∀ i v,i<=N->v < W->¬ (i=z/\v=w0)->j3 i v=out i v
noncomputable def cU (lo hi:Nat->Nat)(g:Nat->Option Nat)(i v:Nat):Nat:=if g i=some v then (if v=lo i then hi i else lo i) else v
noncomputable def Nm (j3:Nat->Nat->Int)(W i v1 v2:Nat):Prop:=v1 < W/\v2 < W/\((v1=v2/\2<=j3 i v1)\/(v1≠v2/\1<=j3 i v1/\1<=j3 i v2))
section
variable {N W:Nat}{lo hi:Nat->Nat}{wait:Nat->Nat->Int}{th bk:Nat->Int}{g:Nat->Option Nat}{j3 out:Nat->Nat->Int}{tot:Int} {a z s0 w0:Nat}
theorem Lay.dJ (L:Lay N W lo hi wait th bk g j3 out tot a z s0 w0){i v:Nat}(iR:i < N)(hv:v < W)(hz:¬ (i=z/\v=w0))(ng:g i≠some v):j3 i v<=j3 (i + 1) v:=by
 have h1:=L.Sj i v iR hv;rw [L.V4 i v (by omega) hv hz,L.PZ i v iR hv];have h2:=L.gv i iR;have h3:=(L.ne i iR).1;by_cases c1:v=lo i
 ·have c2:¬ v=hi i:=λe=>h3 (c1.symm.trans e);rw [if_pos c1,if_neg c2] at *;rcases h2 with ⟨_,e,_⟩ | ⟨e,_,_⟩ | ⟨_,e1,e2⟩
  ·omega
  ·exact absurd (by rw [e,c1]) ng
  ·omega
 ·by_cases c2:v=hi i
  ·rw [if_neg c1,if_pos c2] at *;rcases h2 with ⟨_,e,_⟩ | ⟨_,e1,e2⟩ | ⟨e,_,_⟩
   ·omega
   ·omega
   ·exact absurd (by rw [e,c2]) ng
  ·rw [if_neg c1,if_neg c2] at *;omega
theorem Lay.give (L:Lay N W lo hi wait th bk g j3 out tot a z s0 w0){i v:Nat}(iR:i < N)(hg:g i=some v):cU lo hi g i v≠v/\cU lo hi g i v < W/\v < W/\1<=j3 (i + 1) (cU lo hi g i v)/\(¬ (i=z/\cU lo hi g i v=w0)->j3 i (cU lo hi g i v) + 1<=j3 (i + 1) (cU lo hi g i v))/\(¬ (i=z/\v=w0)->j3 i v - 1<=j3 (i + 1) v):=by
 obtain ⟨h3,h4,h5⟩:=L.ne i iR;unfold cU;rw [if_pos hg];rcases L.gv i iR with ⟨e,_⟩ | ⟨e,e1,e2⟩ | ⟨e,e1,e2⟩
 ·rw [e] at hg;cases hg
 ·obtain rfl:v=lo i:=by rw [e] at hg;exact (Option.some.inj hg).symm
  rw [if_pos rfl];have n1:=L.Sj i (hi i) iR h5;have n2:=L.Sj i (lo i) iR h4;have p1:=L.pos i (hi i);rw [if_pos rfl,if_neg (Ne.symm h3)] at n1;rw [if_neg h3,if_pos rfl] at n2;refine ⟨Ne.symm h3,h5,h4,by omega,λhz=>?_,λhz=>?_⟩
  ·rw [L.V4 i _ (by omega) h5 hz,L.PZ i _ iR h5,if_neg (Ne.symm h3),if_pos rfl];omega
  ·rw [L.V4 i _ (by omega) h4 hz,L.PZ i _ iR h4,if_pos rfl,if_neg h3];omega
 ·obtain rfl:v=hi i:=by rw [e] at hg;exact (Option.some.inj hg).symm
  rw [if_neg (Ne.symm h3)];have n1:=L.Sj i (lo i) iR h4;have n2:=L.Sj i (hi i) iR h5;have p1:=L.pos i (lo i);rw [if_neg h3,if_pos rfl] at n1;rw [if_pos rfl,if_neg (Ne.symm h3)] at n2;refine ⟨h3,h4,h5,by omega,λhz=>?_,λhz=>?_⟩
  ·rw [L.V4 i _ (by omega) h4 hz,L.PZ i _ iR h4,if_pos rfl,if_neg h3];omega
  ·rw [L.V4 i _ (by omega) h5 hz,L.PZ i _ iR h5,if_neg (Ne.symm h3),if_pos rfl];omega
theorem Lay.two (L:Lay N W lo hi wait th bk g j3 out tot a z s0 w0){i v1 v2:Nat}(iR:i < N)(hz:i≠z)(t:Nm j3 W i v1 v2):Nm j3 W (i + 1) (cU lo hi g i v1) (if g i=some v1 then v2 else cU lo hi g i v2):=by
 have nz:∀ v,¬ (i=z/\v=w0):=λv h=>hz h.1;obtain ⟨w1,w2,t⟩:=t;by_cases c1:g i=some v1
 ·rw [if_pos c1];obtain ⟨m1,m2,m3,m4,m5,m6⟩:=L.give iR c1;refine ⟨m2,w2,?_⟩;rcases t with ⟨rfl,t⟩ | ⟨ne,t1,t2⟩
  ·exact .inr ⟨m1,m4,by have:=m6 (nz _);omega⟩
  ·have st:=L.dJ iR w2 (nz _) (λe=>ne (by rw [c1] at e;exact Option.some.inj e));by_cases c2:cU lo hi g i v1=v2
   ·exact .inl ⟨c2,by have:=m5 (nz _);rw [c2] at this ⊢;omega⟩
   ·exact .inr ⟨c2,m4,by omega⟩
 ·rw [if_neg c1];have e1:cU lo hi g i v1=v1:=by unfold cU;rw [if_neg c1]
  rw [e1];have Mz:=L.dJ iR w1 (nz _) c1;by_cases c2:g i=some v2
  ·obtain ⟨m1,m2,m3,m4,m5,m6⟩:=L.give iR c2;refine ⟨w1,m2,?_⟩;rcases t with ⟨rfl,t⟩ | ⟨ne,t1,t2⟩
   ·exact absurd c2 c1
   ·by_cases c3:v1=cU lo hi g i v2
    ·exact .inl ⟨c3,by have:=m5 (nz _);rw [<-c3] at this;omega⟩
    ·exact .inr ⟨c3,by omega,m4⟩
  ·have e2:cU lo hi g i v2=v2:=by unfold cU;rw [if_neg c2]
   rw [e2];have sI:=L.dJ iR w2 (nz _) c2;refine ⟨w1,w2,?_⟩;rcases t with ⟨rfl,t⟩ | ⟨ne,t1,t2⟩
   ·exact .inl ⟨rfl,by omega⟩
   ·exact .inr ⟨ne,by omega,by omega⟩
theorem Lay.dead (L:Lay N W lo hi wait th bk g j3 out tot a z s0 w0):∀ (k i v:Nat),i + k=N->v < W->z<=i->¬ (i=z/\v=w0)->j3 i v<=0
 | 0,i,v,e,hv,_,hz=>by
  obtain rfl:i=N:=by omega
  rw [L.V4 i v (zD _) hv hz,L.last v hv];exact zp _
 | k + 1,i,v,e,hv,zi,hz=>by
  have iR:i < N:=by omega
  by_cases c:g i=some v
  ·obtain ⟨m1,m2,m3,m4,m5,m6⟩:=L.give iR c;have d:=L.dead k (i + 1) (cU lo hi g i v) (by omega) m2 (by omega) (by omega);omega
  ·have:=L.dJ iR hv hz c;have d:=L.dead k (i + 1) v (by omega) hv (by omega) (by omega);omega
theorem Lay.ends (L:Lay N W lo hi wait th bk g j3 out tot a z s0 w0)(zN:z<=N){v1 v2:Nat}(t:Nm j3 W z v1 v2):v1=w0/\v2=w0:=by
 obtain ⟨w1,w2,t⟩:=t;have d:∀ v,v < W->v≠w0->j3 z v<=0:=λv hv ne=>L.dead (N - z) z v (by omega) hv (zD _) λh=>ne h.2;by_cases c1:v1=w0
 ·by_cases c2:v2=w0
  ·exact ⟨c1,c2⟩
  ·have:=d v2 w2 c2;rcases t with ⟨e,t⟩ | ⟨_,_,t⟩
   ·subst e;omega
   ·omega
 ·have:=d v1 w1 c1;rcases t with ⟨_,t⟩ | ⟨_,t,_⟩ <;> omega
end
noncomputable def aT (ms:List M4)(i:Nat):Nat:=(ms[i]?.map λm=>m.lo.toNat).getD 0
noncomputable def aU (ms:List M4)(i:Nat):Nat:=(ms[i]?.map λm=>m.hi.toNat).getD 0
noncomputable def iQ (ms:List M4)(W i:Nat):List bX:=(dI ms i).map λy=>⟨y.n * W + y.w.g,y.n * W + W + y.w.o,1⟩
noncomputable def aR (ms:List M4)(W:Nat):List bX:=iQ ms W ms.length++(List.range (W * ms.length)).map λq=>⟨q,q + W,2⟩
theorem Mx {ms:List M4}{W i:Nat}(h:i < ms.length):iQ ms W (i + 1)=iQ ms W i++[⟨i * W + aT ms i,i * W + W + aU ms i,1⟩,⟨i * W + aU ms i,i * W + W + aT ms i,1⟩]:=by have e:ms[i]?=some ms[i]:=zL h;unfold iQ aT aU;rw [i8 e,zI,e];rfl
theorem jb {ms:List M4}{W:Nat}:∀ i,i<=ms.length->(iQ ms W i).length=2 * i
 | 0,_=>rfl
 | i + 1,h=>by rw [Mx (by omega),zE,jb i (by omega)];show 2 * i + 2=_;omega
theorem O8 {ms:List M4}{W j:Nat}:∀ i,i<=ms.length->j < i->(iQ ms W i)[2 * j]?=some ⟨j * W + aT ms j,j * W + W + aU ms j,1⟩/\(iQ ms W i)[2 * j + 1]?=some ⟨j * W + aU ms j,j * W + W + aT ms j,1⟩
 | 0,_,h=>by omega
 | i + 1,hi,h=>by
  have l:=jb (ms:=ms) (W:=W) i (by omega);rw [Mx (by omega)];by_cases c:j < i
  ·rw [zU (by omega),zU (by omega)];exact O8 i (by omega) c
  ·obtain rfl:j=i:=by omega
   rw [zY (by omega),zY (by omega),l,xD,show 2 * j + 1 - 2 * j=1 by omega];exact ⟨rfl,rfl⟩
theorem jt {ms:List M4}{W j:Nat}(h:j < ms.length):(aR ms W)[2 * j]?=some ⟨j * W + aT ms j,j * W + W + aU ms j,1⟩/\(aR ms W)[2 * j + 1]?=some ⟨j * W + aU ms j,j * W + W + aT ms j,1⟩:=by have l:=jb (ms:=ms) (W:=W) ms.length (zD _);unfold aR;rw [zU (by omega),zU (by omega)];exact O8 _ (zD _) h
theorem pS {ms:List M4}{W q:Nat}(h:q < W * ms.length):(aR ms W)[2 * ms.length + q]?=some ⟨q,q + W,2⟩:=by have l:=jb (ms:=ms) (W:=W) ms.length (zD _);unfold aR;rw [zY (by omega),l,show 2 * ms.length + q - 2 * ms.length=q by omega,zS,yx h];rfl
theorem mP {ms:List M4}{W:Nat}:(aR ms W).length=2 * ms.length + W * ms.length:=by unfold aR;rw [zE,jb _ (zD _),zA,yE]
theorem ny {W j u i v:Nat}(hu:u < W)(hv:v < W):j * W + u=i * W + v↔j=i/\u=v:=by
 constructor
 ·intro h;have e1:(j * W + u) / W=j:=by rw [Nat.add_comm,Nat.add_mul_div_right _ _ (by omega),Nat.div_eq_of_lt hu];omega
  have e2:(i * W + v) / W=i:=by rw [Nat.add_comm,Nat.add_mul_div_right _ _ (by omega),Nat.div_eq_of_lt hv];omega
  rw [h,e2] at e1;subst e1;exact ⟨rfl,by omega⟩
 ·rintro ⟨rfl,rfl⟩;rfl
noncomputable def gQ (sp:List Int)(j:Nat):Int:=bP sp (2 * (2 * j) + 1)
noncomputable def iB (sp:List Int)(j:Nat):Int:=bP sp (2 * (2 * j + 1) + 1)
noncomputable def mF (ms:List M4)(W:Nat)(sp:List Int)(i v:Nat):Int:=bP sp (2 * (2 * ms.length + (i * W + v)) + 1)
theorem tW {ms:List M4}{W i v:Nat}{sp:List Int}(hv:v < W)(ins:∀ j,j < ms.length->aT ms j < W/\aU ms j < W):∀ j,j<=ms.length->fj (aR ms W) sp (i * W + v) (2 * j)=(if 1<=i/\i<=j then (if v=aU ms (i - 1) then gQ sp (i - 1) else 0) + (if v=aT ms (i - 1) then iB sp (i - 1) else 0) else 0) - (if i < j then (if v=aT ms i then gQ sp i else 0) + (if v=aU ms i then iB sp i else 0) else 0)
 | 0,_=>by
  rw [if_neg (by omega),if_neg (by omega)];rfl
 | j + 1,hj=>by
  obtain ⟨g1,g2⟩:=jt (W:=W) (show j < ms.length by omega);obtain ⟨i1,i2⟩:=ins j (by omega);have ih:=tW (sp:=sp) (i:=i) hv ins j (by omega);rw [show 2 * (j + 1)=2 * j + 1 + 1 by omega,jJ g2,jJ g1,ih];have e1:j * W + W + aU ms j=i * W + v↔j + 1=i/\aU ms j=v:=by rw [<-ny i2 hv,yS]
  have e2:j * W + W + aT ms j=i * W + v↔j + 1=i/\aT ms j=v:=by rw [<-ny i1 hv,yS]
  have e3:=ny (j:=j) (i:=i) i1 hv;have e4:=ny (j:=j) (i:=i) i2 hv;simp only [e1,e2,e3,e4];show _ + gQ sp j * _ + iB sp j * _=_;have k1:∀ (s:Int) (u:Nat),s * (if u=v then 1 else 0)=if v=u then s else 0:=λs u=>by
   by_cases c:u=v
   ·rw [if_pos c,if_pos c.symm,Int.mul_one]
   ·rw [if_neg c,if_neg (λe=>c e.symm),xY]
  by_cases c1:j + 1=i
  ·subst c1;have n1:¬ j=j + 1:=by omega
   rw [if_neg (show ¬ (1<=j + 1/\j + 1<=j) by omega),if_neg (show ¬ j + 1 < j by omega),if_pos (show 1<=j + 1/\j + 1<=j + 1 by omega),if_neg (show ¬ j + 1 < j + 1 by omega),show j + 1 - 1=j by omega];simp only [n1,false_and,true_and,if_false,Int.mul_sub,k1,xY];omega
  ·by_cases c2:j=i
   ·subst c2;rw [if_neg (show ¬ j < j by omega),if_pos (show j < j + 1 by omega)];have t1:(1<=j/\j<=j)↔(1<=j/\j<=j + 1):=by omega
    simp only [c1,t1,false_and,true_and,if_false,Int.mul_sub,k1,xY];omega
   ·have t1:(1<=i/\i<=j)↔(1<=i/\i<=j + 1):=by omega
    have t2:i < j↔i < j + 1:=by omega
    simp only [c1,c2,t1,t2,false_and,if_false];omega
theorem tY {ms:List M4}{W p:Nat}{sp:List Int}(W1:1<=W):∀ q,q<=W * ms.length->fj (aR ms W) sp p (2 * ms.length + q)=fj (aR ms W) sp p (2 * ms.length) + (if W<=p/\p - W < q then bP sp (2 * (2 * ms.length + (p - W)) + 1) else 0) - (if p < q then bP sp (2 * (2 * ms.length + p) + 1) else 0)
 | 0,_=>by
  rw [if_neg (by omega),if_neg (by omega)];show fj _ _ _ (2 * ms.length)=_;omega
 | q + 1,hq=>by
  have ih:=tY (ms:=ms) (sp:=sp) (p:=p) W1 q (by omega);have g:=pS (ms:=ms) (W:=W) (show q < W * ms.length by omega);rw [show 2 * ms.length + (q + 1)=2 * ms.length + q + 1 by omega,jJ g,ih];dsimp only;generalize fj (aR ms W) sp p (2 * ms.length)=X;by_cases c1:q + W=p
  ·subst c1;rw [if_neg (show ¬ (W<=q + W/\q + W - W < q) by omega),if_neg (show ¬ q + W < q by omega),if_pos rfl,if_neg (show ¬ q=q + W by omega),if_pos (show W<=q + W/\q + W - W < q + 1 by omega),if_neg (show ¬ q + W < q + 1 by omega),show q + W - W=q by omega];omega
  ·by_cases c2:q=p
   ·subst c2;rw [if_neg (show ¬ q < q by omega),if_neg c1,if_pos rfl,if_pos (show q < q + 1 by omega)];have t1:(W<=q/\q - W < q)↔(W<=q/\q - W < q + 1):=by omega
    simp only [t1];omega
   ·have t1:(W<=p/\p - W < q)↔(W<=p/\p - W < q + 1):=by omega
    have t2:p < q↔p < q + 1:=by omega
    rw [if_neg c1,if_neg c2];simp only [t1,t2];omega
noncomputable def ql (ms:List M4)(W:Nat)(sp:List Int):Nat->Nat->Int
 | 0,_=>0
 | i + 1,v=>mF ms W sp i v + (if v=aU ms i then gQ sp i else 0) + (if v=aT ms i then iB sp i else 0)
noncomputable def p7 (ms:List M4)(W:Nat)(sp:List Int)(i v:Nat):Int:=if i < ms.length then mF ms W sp i v + (if v=aT ms i then gQ sp i else 0) + (if v=aU ms i then iB sp i else 0) else 0
theorem N6 {ms:List M4}{W i v:Nat}{sp:List Int}(hv:v < W)(ins:∀ j,j < ms.length->aT ms j < W/\aU ms j < W)(iR:i<=ms.length):fj (aR ms W) sp (i * W + v) (aR ms W).length=ql ms W sp i v - p7 ms W sp i v:=by
 rw [mP,tY (by omega) _ (zD _),tW hv ins _ (zD _)];have lt:i * W + v < W * ms.length↔i < ms.length:=by
  constructor
  ·intro h;by_cases c:i < ms.length
   ·exact c
   ·obtain rfl:i=ms.length:=by omega
    rw [xX W] at h;omega
  ·intro h;have:(i + 1) * W<=ms.length * W:=Nat.mul_le_mul_right _ h;rw [yS] at this;rw [xX W];omega
 cases i with
 | zero=>
  rw [if_neg (show ¬ (1<=0/\0<=ms.length) by omega),if_neg (show ¬ (W<=0 * W + v/\0 * W + v - W < W * ms.length) from λh=>by rw [Nat.zero_mul] at h;omega)];unfold p7;by_cases c:0 < ms.length
  ·rw [if_pos c,if_pos c,if_pos (lt.mpr c)];show _=0 - (mF ms W sp 0 v + _ + _);unfold mF;omega
  ·rw [if_neg c,if_neg c,if_neg (λh=>c (lt.mp h))];show _=(0:Int) - 0;omega
 | succ i=>
  have e1:(i + 1) * W + v - W=i * W + v:=by rw [yS];omega
  have lt2:i * W + v < W * ms.length:=by
   have:(i + 1) * W<=ms.length * W:=Nat.mul_le_mul_right _ iR;rw [yS] at this;rw [xX W];omega
  rw [e1,if_pos (show 1<=i + 1/\i + 1<=ms.length by omega),if_pos (show W<=(i + 1) * W + v/\i * W + v < W * ms.length from ⟨by rw [yS];omega,lt2⟩),show i + 1 - 1=i by omega];unfold p7;show _=mF ms W sp i v + _ + _ - _;by_cases c:i + 1 < ms.length
  ·rw [if_pos c,if_pos c,if_pos (lt.mpr c)];unfold mF;omega
  ·rw [if_neg c,if_neg c,if_neg (λh=>c (lt.mp h))];unfold mF;omega
theorem sf {ts:List bX}{sp:List Int}(s:Sound ts sp)(a:Nat):0<=bP sp a:=by
 by_cases c:a < 2 * ts.length
 ·exact s.pos a c
 ·unfold bP;rw [List.getElem?_eq_none (by rw [s.len];omega)];exact zp _
noncomputable def cB (ms:List M4)(sp:List Int)(i:Nat):Option Nat:=if gQ sp i=iB sp i then none else if iB sp i < gQ sp i then some (aT ms i) else some (aU ms i)
theorem Xl {ms:List M4}{W:Nat}{sp:List Int}{tot:Int}{a z s0 w0:Nat}(s:Sound (aR ms W) sp)(t0:0<=tot)(ins:∀ j,j < ms.length->aT ms j≠aU ms j/\aT ms j < W/\aU ms j < W)(hs:s0 < W)(hw:w0 < W)
  (nt:∀ p,fj (aR ms W) sp p (aR ms W).length=tot * ((if z * W + w0=p then 1 else 0) - (if a * W + s0=p then 1 else 0))) :
  Lay ms.length W (aT ms) (aU ms) (mF ms W sp) (gQ sp) (iB sp) (cB ms sp) (λi v=>ql ms W sp i v + tot * (if a=i/\s0=v then 1 else 0)) (p7 ms W sp) tot a z s0 w0:=by
 refine ⟨ins,λi v=>sf s _,λi iR=>?_,λi v iR hv=>?_,λi v iR hv=>?_,λv hv=>?_,λi v iR hv hz=>?_⟩
 ·obtain ⟨g1,g2⟩:=jt (W:=W) iR;have w1:=kZ s g1;have w2:=kZ s g2;have w1:0<=gQ sp i/\gQ sp i<=1:=w1;have w2:0<=iB sp i/\iB sp i<=1:=w2;unfold cB;by_cases c1:gQ sp i=iB sp i
  ·rw [if_pos c1];exact .inl ⟨rfl,c1,w1.1⟩
  ·rw [if_neg c1];by_cases c2:iB sp i < gQ sp i
   ·rw [if_pos c2];exact .inr (.inl ⟨rfl,by omega,by omega⟩)
   ·rw [if_neg c2];exact .inr (.inr ⟨rfl,by omega,by omega⟩)
 ·have:0<=tot * (if a=i + 1/\s0=v then 1 else 0):=by split <;> omega
  show _<=ql ms W sp (i + 1) v + tot * (if a=i + 1/\s0=v then 1 else 0);show _<=mF ms W sp i v + _ + _ + _;omega
 ·unfold p7;rw [if_pos iR]
 ·unfold p7;rw [if_neg (by omega)]
 ·have h:=nt (i * W + v);rw [N6 hv (λj hj=>(ins j hj).2) iR] at h;have e1:=ny (j:=z) (i:=i) hw hv;have e2:=ny (j:=a) (i:=i) hs hv;simp only [e1,e2] at h;rw [if_neg (show ¬ (z=i/\w0=v) from λe=>hz ⟨e.1.symm,e.2.symm⟩),Int.mul_sub,xY] at h;show ql ms W sp i v + tot * (if a=i/\s0=v then 1 else 0)=_;omega
theorem qz {ts:List bX}{S:List Nat}{i:Nat}{x:bX}(hx:ts[i]?=some x):gJ ts S (i + 1)=gJ ts S i + (if x.h∈S/\x.t ∉ S then x.m else 0):=by show gJ ts S i + (match ts[i]? with | some x=>_ | none=>_)=_;rw [hx]
theorem kQ {ts:List bX}{S:List Nat}(nn:∀ x∈ts,0<=x.m)(i:Nat):gJ ts S i<=gJ ts S (i + 1):=by
 show _<=gJ ts S i + (match ts[i]? with | some x=>_ | none=>_);cases h:ts[i]? with
 | none=>dsimp only;omega
 | some x=>
  dsimp only;have:=nn x (zB h);split <;> omega
theorem Nh {ts:List bX}{S:List Nat}(nn:∀ x∈ts,0<=x.m):∀ i,0<=gJ ts S i
 | 0=>zp _
 | i + 1=>Int.le_trans (Nh nn i) (kQ nn i)
theorem oB {ts:List bX}{S:List Nat}(nn:∀ x∈ts,0<=x.m){k:Nat}{x:bX}(hx:ts[k]?=some x)(c:x.h∈S/\x.t ∉ S):∀ i,k < i->x.m<=gJ ts S i
 | 0,h=>by omega
 | i + 1,h=>by
  by_cases e:k=i
  ·subst e;rw [qz hx,if_pos c];have:=Nh (S:=S) nn k;omega
  ·exact Int.le_trans (oB nn hx c i (by omega)) (kQ nn i)
theorem uF {ts:List bX}{S:List Nat}(nn:∀ x∈ts,0<=x.m){k l:Nat}{x y:bX}(hx:ts[k]?=some x)(hy:ts[l]?=some y)(kl:k < l)(c:x.h∈S/\x.t ∉ S)(d:y.h∈S/\y.t ∉ S):∀ i,l < i->x.m + y.m<=gJ ts S i
 | 0,h=>by omega
 | i + 1,h=>by
  by_cases e:l=i
  ·subst e;rw [qz hy,if_pos d];have:=oB nn hx c l kl;omega
  ·exact Int.le_trans (uF nn hx hy kl c d i (by omega)) (kQ nn i)
theorem Mw {ms:List M4}{W:Nat}:∀ x∈aR ms W,0<=x.m:=by
 intro x hx;unfold aR iQ at hx;rcases zT.mp hx with h | h
 ·obtain ⟨y,_,rfl⟩:=zP.mp h;show (0:Int)<=1;decide
 ·obtain ⟨y,_,rfl⟩:=zP.mp h;show (0:Int)<=2;decide
noncomputable def gA (ms:List M4)(W:Nat)(S:List Nat)(j:Nat):Prop:=(j * W + aT ms j∈S/\j * W + W + aU ms j ∉ S)\/(j * W + aU ms j∈S/\j * W + W + aT ms j ∉ S)
theorem SX {ms:List M4}{W:Nat}{S:List Nat}(h:gJ (aR ms W) S (aR ms W).length < 2):(∀ q,q < W * ms.length->q∈S->q + W∈S)/\∀ j l,j < ms.length->l < ms.length->gA ms W S j->gA ms W S l->j=l:=by
 rw [mP] at h;constructor
 ·intro q hq hS;refine Classical.byContradiction λc=>?_;have:=oB (S:=S) Mw (pS (ms:=ms) (W:=W) hq) ⟨hS,c⟩ (2 * ms.length + W * ms.length) (by omega);have this:(2:Int)<=gJ (aR ms W) S (2 * ms.length + W * ms.length):=this;omega
 ·intro j l hj hl lj ll;have key:∀ j l,j < ms.length->l < ms.length->gA ms W S j->gA ms W S l->¬ j < l:=λj l hj hl lj ll lt=>by
   obtain ⟨a1,a2⟩:=jt (W:=W) hj;obtain ⟨b1,b2⟩:=jt (W:=W) hl;have fin:∀ {k k':Nat}{x y:bX},(aR ms W)[k]?=some x->(aR ms W)[k']?=some y->k < k'->k' < 2 * ms.length->x.m=1->y.m=1->(x.h∈S/\x.t ∉ S)->(y.h∈S/\y.t ∉ S)->False:=λhx hy kk kn e1 e2 c d=>by
    have:=uF (S:=S) Mw hx hy kk c d (2 * ms.length + W * ms.length) (by omega);omega
   rcases lj with c | c <;> rcases ll with d | d
   ·exact fin a1 b1 (by omega) (by omega) rfl rfl c d
   ·exact fin a1 b2 (by omega) (by omega) rfl rfl c d
   ·exact fin a2 b1 (by omega) (by omega) rfl rfl c d
   ·exact fin a2 b2 (by omega) (by omega) rfl rfl c d
  have h1:=key j l hj hl lj ll;have h2:=key l j hl hj ll lj;omega
noncomputable def bJ (ms:List M4)(n:Nat)(st:Fn):Nat->Fn
 | 0=>st
 | i + 1=>if i=n then bJ ms n st i else (match ms[i]? with
  | some m=>aJ (aJ (bJ ms n st i) ⟨m.lo.toNat,m.hi.toNat,m.t⟩) ⟨m.hi.toNat,m.lo.toNat,m.t⟩
  | none=>bJ ms n st i)
theorem kO {st:Fn}{w:W3}{v:Nat}(h:aJ st w v≠none):st v≠none\/(v=w.o/\st w.g≠none):=by
 unfold aJ at h;split at h
 ·rename_i c;by_cases e:v=w.o
  ·refine .inr ⟨e,λz=>?_⟩;rw [z] at c;exact absurd c.2 (by simp [below])
  ·left;intro z;apply h;unfold put;rw [if_neg e];exact z
 ·exact .inl h
theorem Om {st:Fn}{l h:Nat}{t:Int}{v:Nat}(hv:aJ (aJ st ⟨l,h,t⟩) ⟨h,l,t⟩ v≠none):st v≠none\/(v=h/\st l≠none)\/(v=l/\st h≠none):=by
 rcases kO hv with h1 | ⟨rfl,h1⟩
 ·rcases kO h1 with h2 | ⟨rfl,h2⟩
  ·exact .inl h2
  ·exact .inr (.inl ⟨rfl,h2⟩)
 ·rcases kO h1 with h2 | ⟨_,h2⟩
  ·exact .inr (.inr ⟨rfl,h2⟩)
  ·exact .inl h2
theorem oq {s0 g o:Nat}{x t:Int}(h:t<=x):aJ (aI s0 x) ⟨g,o,t⟩=aI s0 x:=by
 unfold aJ;rw [if_neg];rintro ⟨_,h2⟩;obtain ⟨y,e,lt⟩:=bO.mp h2;have e:aI s0 x g=some y:=e;unfold aI at e;split at e
 ·cases e;have lt:x < t:=lt;omega
 ·cases e
theorem n8 {ms:List M4}{n s0 a:Nat}{x:Int}(early:∀ (j:Nat) m,j < a->ms[j]?=some m->m.t<=x):∀ i,i<=a->bJ ms n (aI s0 x) i=aI s0 x
 | 0,_=>rfl
 | i + 1,h=>by
  have ih:=n8 (n:=n) (s0:=s0) early i (by omega);show (if i=n then _ else _)=_;rw [ih];split
  ·rfl
  ·split
   ·rename_i m hm;have:=early i m (by omega) hm;rw [oq this,oq this]
   ·rfl
theorem kK {ms:List M4}{W n s0 a:Nat}{x:Int}{S:List Nat}(early:∀ (j:Nat) m,j < a->ms[j]?=some m->m.t<=x)(hs:a * W + s0∈S)
  (wait:∀ q,q < W * ms.length->q∈S->q + W∈S) (Wx:∀ j,j < ms.length->j≠n->¬ gA ms W S j) (ins:∀ j,j < ms.length->aT ms j < W/\aU ms j < W):∀ i,a<=i->i<=ms.length->∀ v,v < W->bJ ms n (aI s0 x) i v≠none->i * W + v∈S
 | i,ai,iN,v,hv,h=>by
  by_cases e:i=a
  ·subst e;rw [n8 early i (zD _)] at h;unfold aI at h;split at h
   ·rename_i c;rw [c];exact hs
   ·exact absurd rfl h
  ·match i,e,ai,iN,h with
   | 0,e,ai,_,_=>omega
   | i + 1,e,ai,iN,h=>
    have ih:=kK early hs wait Wx ins i (by omega) (by omega);have inW:∀ u,u < W->i * W + u < W * ms.length:=λu hu=>by
     have:(i + 1) * W<=ms.length * W:=Nat.mul_le_mul_right _ iN;rw [yS] at this;rw [xX W];omega
    have dJ:∀ u,u < W->bJ ms n (aI s0 x) i u≠none->(i + 1) * W + u∈S:=λu hu hh=>by
     have:=wait _ (inW u hu) (ih u hu hh);rw [yS,show i * W + W + u=i * W + u + W by omega];exact this
    have h:(if i=n then bJ ms n (aI s0 x) i else (match ms[i]? with
     | some m=>aJ (aJ (bJ ms n (aI s0 x) i) ⟨m.lo.toNat,m.hi.toNat,m.t⟩) ⟨m.hi.toNat,m.lo.toNat,m.t⟩
     | none=>bJ ms n (aI s0 x) i)) v≠none:=h
    by_cases c:i=n
    ·rw [if_pos c] at h;exact dJ v hv h
    ·rw [if_neg c] at h;have nl:=Wx i (by omega) c;cases hm:ms[i]? with
     | none=>rw [hm] at h;exact dJ v hv h
     | some m=>
      rw [hm] at h;have el:aT ms i=m.lo.toNat:=by unfold aT;rw [hm];rfl
      have eh:aU ms i=m.hi.toNat:=by unfold aU;rw [hm];rfl
      unfold gA at nl;rw [el,eh] at nl;rcases Om h with h1 | ⟨rfl,h1⟩ | ⟨rfl,h1⟩
      ·exact dJ v hv h1
      ·have b:=(ins i (by omega)).1;rw [el] at b;have:=ih _ b h1;rw [yS];exact Classical.byContradiction λz=>nl (.inl ⟨this,z⟩)
      ·have b:=(ins i (by omega)).2;rw [eh] at b;have:=ih _ b h1;rw [yS];exact Classical.byContradiction λz=>nl (.inr ⟨this,z⟩)
theorem uq {ms:List M4}{n:Nat}{st:Fn}(hn:ms.length<=n):∀ i,i<=ms.length->bJ ms n st i=fwd (ms.take i) st
 | 0,_=>rfl
 | i + 1,h=>by
  have ih:=uq (st:=st) hn i (by omega);have e:ms[i]?=some ms[i]:=zL (by omega);show (if i=n then _ else _)=_;rw [if_neg (by omega),ih,yn,gb,e];rfl
theorem kG {ms:List M4}{n:Nat}{st:Fn}(hn:n < ms.length):∀ i,i<=ms.length->bJ ms n st i=fwd ((ms.take i).eraseIdx n) st
 | 0,_=>rfl
 | i + 1,h=>by
  have ih:=kG (st:=st) hn i (by omega);have e:ms[i]?=some ms[i]:=zL (by omega);have li:(ms.take i).length=i:=by rw [zZ];omega
  show (if i=n then _ else _)=_;rw [ih,yn,e];by_cases c:i=n
  ·subst c;rw [if_pos rfl,List.eraseIdx_append_of_length_le (by omega),li,xD,yD (by omega)];show _=fwd (ms.take i++[]) st;rw [zq]
  ·rw [if_neg c];by_cases d:i < n
   ·rw [yD (by omega),yD (by rw [zE,li];show i + 1<=n;omega),gb];rfl
   ·rw [List.eraseIdx_append_of_lt_length (by omega),gb];rfl
theorem Nv {ms:List M4}{W s0 w0 a z:Nat}{x:Int}{S:List Nat}{tot:Int}(early:∀ (j:Nat) m,j < a->ms[j]?=some m->m.t<=x)(ins:∀ j,j < ms.length->aT ms j < W/\aU ms j < W)(az:a<=z)(zN:z<=ms.length)(hw:w0 < W)(hs:a * W + s0∈S)(hg:z * W + w0 ∉ S)(ct:gJ (aR ms W) S (aR ms W).length=tot)
  (all:fwd (ms.take z) (aI s0 x) w0≠none) (each:∀ n,n < z->fwd ((ms.take z).eraseIdx n) (aI s0 x) w0≠none):2<=tot:=by
 refine Classical.byContradiction λc=>?_;obtain ⟨wait,one⟩:=SX (ms:=ms) (W:=W) (S:=S) (by omega);by_cases ex:∃ n,n < ms.length/\gA ms W S n
 ·obtain ⟨n,hn,ln⟩:=ex;have h:=kK (n:=n) early hs wait (λj hj ne lj=>ne (one j n hj hn lj ln)) ins z az zN w0 hw;rw [kG hn z zN] at h;by_cases d:n < z
  ·exact hg (h (each n d))
  ·rw [yD (by rw [zZ];omega)] at h;exact hg (h all)
 ·have h:=kK (n:=ms.length) early hs wait (λj hj _ lj=>ex ⟨j,hj,lj⟩) ins z az zN w0 hw;rw [uq (zD _) z zN] at h;exact hg (h all)
theorem Ru {m:M4}{x:W3}(h:x∈two m):x.t=m.t:=by
 unfold two at h;rcases zH.mp h with rfl | h
 ·rfl
 ·cases zF.mp h;rfl
theorem iy:∀ {ms:List M4}{t:Int},(ms.Pairwise λa b=>a.t<=b.t)->∀ {j:Nat}{m:M4},ms[j]?=some m->(j < cnt ms t↔m.t<=t)
 | [],t,_,j,m,h=>by simp at h
 | a::ms,t,o,j,m,h=>by
  have o:=List.pairwise_cons.mp o;by_cases c:a.t<=t
  ·have e:cnt (a::ms) t=cnt ms t + 1:=by unfold cnt;rw [List.filter_cons,if_pos (by simp [c])];rfl
   rw [e];cases j with
   | zero=>cases h;exact ⟨λ_=>c,λ_=>by omega⟩
   | succ j=>rw [<-iy (t:=t) o.2 (j:=j) h];omega
  ·have e:cnt (a::ms) t=0:=by
    unfold cnt;rw [List.filter_cons,if_neg (by simp [c]),List.filter_eq_nil_iff.mpr (λm hm=>by have:=o.1 m hm;simp;omega)];rfl
   rw [e];have:a.t<=m.t:=by
    cases j with
    | zero=>cases h;exact zp _
    | succ j=>exact o.1 m (zB h)
   omega
theorem iz (ms:List M4)(t:Int):cnt ms t<=ms.length:=List.length_filter_le _ _
theorem uJ {ms:List M4}(o:ms.Pairwise λa b=>a.t<=b.t){x z:Int}(h:x<=z):cnt ms x<=cnt ms z:=by refine Classical.byContradiction λc=>?_;have l:=iz ms x;have e:ms[cnt ms z]?=some ms[cnt ms z]:=zL (by omega);have h1:=(iy (t:=x) o e).mp (by omega);have h2:=(iy (t:=z) o e).mpr (by omega);omega
theorem uK {ms:List M4}(o:ms.Pairwise λa b=>a.t<=b.t){z:Int}:∀ m∈ms.drop (cnt ms z),z < m.t:=λm hm=>by
 obtain ⟨j,hj⟩:=zx hm;rw [List.getElem?_drop] at hj;have:=(iy (t:=z) o hj);omega
theorem ou {z:Int}:∀ {ws:List W3}{st:Fn},(∀ x∈ws,z < x.t)->∀ {i:Nat}{y:Int},ws.foldl aJ st i=some y->st i=some y\/z < y
 | [],st,_,i,y,h=>.inl h
 | x::ws,st,hx,i,y,h=>by
  rcases ou (ws:=ws) (st:=aJ st x) (λx' h'=>hx x' (.tail _ h')) h with h1 | h1
  ·unfold aJ at h1;split at h1
   ·unfold put at h1;split at h1
    ·cases h1;exact .inr (hx x (.head _))
    ·exact .inl h1
   ·exact .inl h1
  ·exact .inr h1
theorem ux {A B:List M4}{st:Fn}{w:Nat}{z:Int}(hB:∀ m∈B,z < m.t)(h:cK (fwd (A++B) st w) z=true):fwd A st w≠none:=by
 obtain ⟨y,hy,le⟩:=bq.mp h;rw [gb] at hy;rcases ou (λx hx=>by
  obtain ⟨m,hm,hx⟩:=yk.mp hx;rw [Ru hx];exact hB m hm) hy with h1 | h1
 ·rw [h1];exact λz=>nomatch z
 ·omega
theorem kL {ms:List M4}{n v:Nat}{st:Fn}{y:Int}{i:Nat}(h:bJ ms n st i v=some y):∀ k,bJ ms n st (i + k) v=some y
 | 0=>h
 | k + 1=>by
  have ih:=kL h k;show (if i + k=n then bJ ms n st (i + k) else (match ms[i + k]? with
   | some m=>aJ (aJ (bJ ms n st (i + k)) ⟨m.lo.toNat,m.hi.toNat,m.t⟩) ⟨m.hi.toNat,m.lo.toNat,m.t⟩
   | none=>bJ ms n st (i + k))) v=_
  split
  ·exact ih
  ·cases ms[i + k]? with
   | some m=>exact cV (cV ih)
   | none=>exact ih
theorem qo {st:Fn}{x:W3}{v:Nat}{y:Int}(h:aJ st x v=some y):st v=some y\/y=x.t:=by
 unfold aJ at h;split at h
 ·unfold put at h;split at h
  ·cases h;exact .inr rfl
  ·exact .inl h
 ·exact .inl h
theorem uo {ms:List M4}{n:Nat}{st:Fn}{v:Nat}{y:Int}:∀ {i},bJ ms n st i v=some y->st v=some y\/∃ (j:Nat) (m:M4),j < i/\ms[j]?=some m/\m.t=y
 | 0,h=>.inl h
 | i + 1,h=>by
  have up:bJ ms n st i v=some y->st v=some y\/∃ (j:Nat) (m:M4),j < i + 1/\ms[j]?=some m/\m.t=y:=λh=>by
   rcases uo h with h | ⟨j,m,lt,h1,h2⟩
   ·exact .inl h
   ·exact .inr ⟨j,m,by omega,h1,h2⟩
  have h:(if i=n then bJ ms n st i else (match ms[i]? with
   | some m=>aJ (aJ (bJ ms n st i) ⟨m.lo.toNat,m.hi.toNat,m.t⟩) ⟨m.hi.toNat,m.lo.toNat,m.t⟩
   | none=>bJ ms n st i)) v=some y:=h
  split at h
  ·exact up h
  ·cases hm:ms[i]? with
   | none=>rw [hm] at h;exact up h
   | some m=>
    rw [hm] at h;rcases qo h with h | h
    ·rcases qo h with h | h
     ·exact up h
     ·exact .inr ⟨i,m,by omega,hm,h.symm⟩
    ·exact .inr ⟨i,m,by omega,hm,h.symm⟩
theorem uy {st:Fn}{x:W3}{y:Int}(h:st x.g=some y)(lt:y < x.t):aJ st x x.o≠none:=by
 unfold aJ;by_cases c:st x.o=none
 ·rw [if_pos ⟨c,bO.mpr ⟨y,h,lt⟩⟩,dP];exact λz=>nomatch z
 ·rw [if_neg (λz=>c z.1)];exact c
theorem Oo {st:Fn}{x:W3}{v:Nat}(h:st v≠none):aJ st x v≠none:=by
 cases e:st v with
 | none=>exact absurd e h
 | some y=>rw [cV e];exact λz=>nomatch z
theorem iE {ms:List M4}:∀ {ns:List Int}{v w:Nat}{t A e:Int},aX ms v t A ns=some (w,e)->t<=e
 | [],v,w,t,A,e,h=>by
  unfold aX at h;cases h;exact zp _
 | n::ns,v,w,t,A,e,h=>by
  obtain ⟨m,_,_,_,_,lt,wk⟩:=dF h;have:=iE wk;omega
theorem pN {W:Nat}{ms:List M4}(gd:Good W ms){n s0:Nat}{x z:Int}{w:Nat}{e:Int}(le:e<=z):∀ {ns:List Int}{v:Nat}{t A:Int},aX ms v t A ns=some (w,e)->((n:Int) ∉ ns)->x<=t->-1<=A->A + 1<=cnt ms z->(∃ y,y<=t/\bJ ms n (aI s0 x) (A + 1).toNat v=some y)->bJ ms n (aI s0 x) (cnt ms z) w≠none
 | [],v,t,A,h,_,_,A1,Az,⟨y,_,hy⟩=>by
  unfold aX at h;cases h;have:=kL hy (cnt ms z - (A + 1).toNat);rw [show (A + 1).toNat + (cnt ms z - (A + 1).toNat)=cnt ms z by omega] at this;rw [this];exact λz=>nomatch z
 | k::ns,v,t,A,h,nn,xt,A1,Az,⟨y,yt,hy⟩=>by
  obtain ⟨m,hm,Ak,k0,hv,lt,wk⟩:=dF h;obtain ⟨k,rfl⟩:=zl k0;rw [zy] at hm;have me:=iE wk;have kz:=(iy (t:=z) gd.ord.2 hm).mpr (by omega);have nk:¬ k=n:=λe=>nn (by rw [e];exact .head _);have Tt:=kL hy (k - (A + 1).toNat);rw [show (A + 1).toNat + (k - (A + 1).toNat)=k by omega] at Tt;have hk:bJ ms n (aI s0 x) (k + 1)=aJ (aJ (bJ ms n (aI s0 x) k) ⟨m.lo.toNat,m.hi.toNat,m.t⟩) ⟨m.hi.toNat,m.lo.toNat,m.t⟩:=by
   show (if k=n then _ else _)=_;rw [if_neg nk,hm]
  have got:bJ ms n (aI s0 x) (k + 1) (if v=m.lo.toNat then m.hi.toNat else m.lo.toNat)≠none:=by
   rw [hk];by_cases c:v=m.lo.toNat
   ·rw [if_pos c];rw [c] at Tt;exact Oo (uy (x:=⟨m.lo.toNat,m.hi.toNat,m.t⟩) Tt (by show y < m.t;omega))
   ·rw [if_neg c];obtain rfl:v=m.hi.toNat:=hv.resolve_left c;exact uy (x:=⟨m.hi.toNat,m.lo.toNat,m.t⟩) (cV Tt) (by show y < m.t;omega)
  refine pN gd le wk (λz=>nn (.tail _ z)) (by omega) (by omega) (by omega) ?_;rw [show ((k:Int) + 1).toNat=k + 1 by omega];cases ey:bJ ms n (aI s0 x) (k + 1) (if v=m.lo.toNat then m.hi.toNat else m.lo.toNat) with
  | none=>exact absurd ey got
  | some y'=>
   refine ⟨y',?_,rfl⟩;rcases uo ey with h1 | ⟨j,m',jk,oU,rfl⟩
   ·have:∀ u,aI s0 x u=some y'->y'=x:=λu h=>by
     unfold aI at h;split at h
     ·exact (Option.some.inj h).symm
     ·cases h
    have:=this _ h1;omega
   ·by_cases c:j=k
    ·subst c;rw [hm] at oU;cases oU;exact zp _
    ·obtain ⟨l1,e1⟩:=zC.mp oU;obtain ⟨l2,e2⟩:=zC.mp hm;have:=zw.mp gd.ord.2 j k l1 l2 (by omega);rw [e1,e2] at this;exact this
theorem VH {W:Nat}{ms:List M4}(gd:Good W ms){s0 w0:Nat}{x z e:Int}{ns:List Int}(wk:aX ms s0 x (-1) ns=some (w0,e))(le:e<=z)(hn:∀ n:Nat,(n:Int)∈ns->cK (fwd (ms.eraseIdx n) (aI s0 x) w0) z=true):fwd (ms.take (cnt ms z)) (aI s0 x) w0≠none/\∀ n,n < cnt ms z->fwd ((ms.take (cnt ms z)).eraseIdx n) (aI s0 x) w0≠none:=by
 have cl:=iz ms z;constructor
 ·have:=fO gd wk;obtain ⟨y,hy,l⟩:=bq.mp this;exact ux (B:=ms.drop (cnt ms z)) (z:=z) (uK gd.ord.2) (by rw [List.take_append_drop];exact bq.mpr ⟨y,hy,by omega⟩)
 ·intro n Rj;by_cases c:(n:Int)∈ns
  ·refine ux (B:=ms.drop (cnt ms z)) (z:=z) (uK gd.ord.2) ?_;rw [<-List.eraseIdx_append_of_lt_length (by rw [zZ];omega),List.take_append_drop];exact hn n c
  ·rw [<-kG (by omega) _ cl];exact pN gd le wk c (zp _) (by omega) (by omega) ⟨x,zp _,by show aI s0 x s0=some x;unfold aI;rw [if_pos rfl]⟩
noncomputable def aG (lo hi:Nat->Nat)(g:Nat->Option Nat)(a s0:Nat):Nat->List Int×Nat
 | 0=>([],s0)
 | k + 1=>if g (a + k)=some (aG lo hi g a s0 k).2 then ((aG lo hi g a s0 k).1++[((a + k:Nat):Int)],cU lo hi g (a + k) (aG lo hi g a s0 k).2) else aG lo hi g a s0 k
section
variable {lo hi:Nat->Nat}{g:Nat->Option Nat} {a s0:Nat}
theorem jz {k:Nat}(h:g (a + k)=some (aG lo hi g a s0 k).2):aG lo hi g a s0 (k + 1)=((aG lo hi g a s0 k).1++[((a + k:Nat):Int)],cU lo hi g (a + k) (aG lo hi g a s0 k).2):=by show (if _ then _ else _)=_;rw [if_pos h]
theorem nh {k:Nat}(h:¬ g (a + k)=some (aG lo hi g a s0 k).2):aG lo hi g a s0 (k + 1)=aG lo hi g a s0 k:=by show (if _ then _ else _)=_;rw [if_neg h]
theorem Pw (k:Nat):(aG lo hi g a s0 (k + 1)).2=cU lo hi g (a + k) (aG lo hi g a s0 k).2:=by
 by_cases h:g (a + k)=some (aG lo hi g a s0 k).2
 ·rw [jz h]
 ·rw [nh h];unfold cU;rw [if_neg h]
theorem jA {n:Int}:∀ {K:Nat},n∈(aG lo hi g a s0 K).1↔∃ k,k < K/\n=((a + k:Nat):Int)/\g (a + k)=some (aG lo hi g a s0 k).2
 | 0=>by
  constructor
  ·intro h;cases h
  ·rintro ⟨_,h,_⟩;omega
 | K + 1=>by
  by_cases h:g (a + K)=some (aG lo hi g a s0 K).2
  ·rw [jz h];show n∈_++_↔_;rw [zT,jA,zF];constructor
   ·rintro (⟨k,l,e,z⟩ | rfl)
    ·exact ⟨k,by omega,e,z⟩
    ·exact ⟨K,by omega,rfl,h⟩
   ·rintro ⟨k,l,e,z⟩;by_cases c:k=K
    ·subst c;exact .inr e
    ·exact .inl ⟨k,by omega,e,z⟩
  ·rw [nh h,jA];constructor
   ·rintro ⟨k,l,e,z⟩;exact ⟨k,by omega,e,z⟩
   ·rintro ⟨k,l,e,z⟩;by_cases c:k=K
    ·subst c;exact absurd z h
    ·exact ⟨k,by omega,e,z⟩
theorem pU:∀ {K:Nat},(aG lo hi g a s0 K).1.length<=K
 | 0=>zD _
 | K + 1=>by
  have:=pU (K:=K);by_cases h:g (a + K)=some (aG lo hi g a s0 K).2
  ·rw [jz h];show ((aG lo hi g a s0 K).1++[((a + K:Nat):Int)]).length<=_;rw [zE];show _ + 1<=_;omega
  ·rw [nh h];omega
noncomputable def cM (g:Nat->Option Nat)(c:List Int)(i:Nat):Option Nat:=if (i:Int)∈c then none else g i
theorem RU {K k:Nat}(hk:k < K):(aG lo hi (cM g (aG lo hi g a s0 K).1) a s0 (k + 1)).2=if g (a + k)=some (aG lo hi g a s0 k).2 then (aG lo hi (cM g (aG lo hi g a s0 K).1) a s0 k).2 else cU lo hi g (a + k) (aG lo hi (cM g (aG lo hi g a s0 K).1) a s0 k).2:=by
 rw [Pw];by_cases h:g (a + k)=some (aG lo hi g a s0 k).2
 ·rw [if_pos h];have:((a + k:Nat):Int)∈(aG lo hi g a s0 K).1:=jA.mpr ⟨k,hk,rfl,h⟩;unfold cU;rw [if_neg];unfold cM;rw [if_pos this];exact λz=>nomatch z
 ·rw [if_neg h];have:((a + k:Nat):Int) ∉ (aG lo hi g a s0 K).1:=λz=>by
   obtain ⟨k',_,e,z⟩:=jA.mp z;obtain rfl:k=k':=by omega
   exact h z
  have e:cM g (aG lo hi g a s0 K).1 (a + k)=g (a + k):=by unfold cM;rw [if_neg this]
  unfold cU;rw [e]
end
theorem Pu {N W:Nat}{lo hi:Nat->Nat}{wait:Nat->Nat->Int}{th bk:Nat->Int}{g:Nat->Option Nat}{j3 out:Nat->Nat->Int}{tot:Int}{a z s0 w0:Nat}(L:Lay N W lo hi wait th bk g j3 out tot a z s0 w0)(az:a<=z)(zN:z<=N)(hs:s0 < W)(two:2<=j3 a s0):(aG lo hi g a s0 (z - a)).2=w0/\(aG lo hi (cM g (aG lo hi g a s0 (z - a)).1) a s0 (z - a)).2=w0:=by
 have go:∀ k,k<=z - a->Nm j3 W (a + k) (aG lo hi g a s0 k).2 (aG lo hi (cM g (aG lo hi g a s0 (z - a)).1) a s0 k).2:=by
  intro k;induction k with
  | zero=>exact λ_=>⟨hs,hs,.inl ⟨rfl,two⟩⟩
  | succ k ih=>
   intro hk;have:=L.two (by omega) (by omega) (ih (by omega));rw [RU (by omega),Pw];exact this
 have e:=go (z - a) (zD _);rw [show a + (z - a)=z by omega] at e;exact L.ends zN e
theorem tw {W:Nat}{ms:List M4}(gd:Good W ms){x:Int}{s0:Nat}{g:Nat->Option Nat}(hg:∀ i v,i < ms.length->g i=some v->v=aT ms i\/v=aU ms i):∀ k,cnt ms x + k<=ms.length ->
  ∃ t,aX ms s0 x (-1) (aG (aT ms) (aU ms) g (cnt ms x) s0 k).1=some ((aG (aT ms) (aU ms) g (cnt ms x) s0 k).2,t)/\(((aG (aT ms) (aU ms) g (cnt ms x) s0 k).2=s0/\t=x)\/∃ (j:Nat) (m:M4),j < cnt ms x + k/\ms[j]?=some m/\m.t=t/\((aG (aT ms) (aU ms) g (cnt ms x) s0 k).2=m.lo.toNat\/(aG (aT ms) (aU ms) g (cnt ms x) s0 k).2=m.hi.toNat))
 | 0,_=>⟨x,rfl,.inl ⟨rfl,rfl⟩⟩
 | k + 1,hk=>by
  obtain ⟨t,wk,st⟩:=tw (x:=x) (s0:=s0) gd hg k (by omega);by_cases h:g (cnt ms x + k)=some (aG (aT ms) (aU ms) g (cnt ms x) s0 k).2
  ·have hm:ms[cnt ms x + k]?=some ms[cnt ms x + k]:=zL (by omega);generalize ms[cnt ms x + k]=m at hm;have el:aT ms (cnt ms x + k)=m.lo.toNat:=by unfold aT;rw [hm];rfl
   have eh:aU ms (cnt ms x + k)=m.hi.toNat:=by unfold aU;rw [hm];rfl
   have hv:=hg _ _ (by omega) h;rw [el,eh] at hv;rw [jz h];generalize aG (aT ms) (aU ms) g (cnt ms x) s0 k=r at *;have lt:t < m.t:=by
    rcases st with ⟨_,tx⟩ | ⟨j,m',lj,oU,rfl,Tu⟩
    ·have:=(iy (t:=x) gd.ord.2 hm);omega
    ·obtain ⟨l1,e1⟩:=zC.mp oU;obtain ⟨l2,e2⟩:=zC.mp hm;have:=zw.mp gd.order j (cnt ms x + k) l1 l2 (by omega);rw [e1,e2] at this;rcases this with h | ⟨_,_,ap⟩
     ·exact h
     ·obtain ⟨a1,a2,a3,a4⟩:=ap;obtain ⟨b1,b2,_⟩:=gd.each m (zB hm);obtain ⟨c1,c2,_⟩:=gd.each m' (zB oU);omega
   have mv:cU (aT ms) (aU ms) g (cnt ms x + k) r.2=V8 r.2 m:=by
    unfold cU V8;rw [if_pos h,el,eh]
   rw [mv];refine ⟨m.t,pL gd hm wk (.inl rfl) hv lt,.inr ⟨_,m,by omega,hm,rfl,?_⟩⟩;show V8 r.2 m=_\/V8 r.2 m=_;unfold V8;split
   ·exact .inr rfl
   ·exact .inl rfl
  ·rw [nh h];refine ⟨t,wk,?_⟩;rcases st with st | ⟨j,m,h1,h2⟩
   ·exact .inl st
   ·exact .inr ⟨j,m,by omega,h2⟩
theorem pV {W:Nat}{ms:List M4}(gd:Good W ms){x z:Int}{s0 w0:Nat}{g:Nat->Option Nat}(hg:∀ i v,i < ms.length->g i=some v->v=aT ms i\/v=aU ms i)(xz:x<=z)(hw:(aG (aT ms) (aU ms) g (cnt ms x) s0 (cnt ms z - cnt ms x)).2=w0):∃ e,e<=z/\aX ms s0 x (-1) (aG (aT ms) (aU ms) g (cnt ms x) s0 (cnt ms z - cnt ms x)).1=some (w0,e):=by
 have c1:=uJ gd.ord.2 xz;have c2:=iz ms z;obtain ⟨t,wk,st⟩:=tw gd (x:=x) (s0:=s0) hg (cnt ms z - cnt ms x) (by omega);rw [hw] at wk;refine ⟨t,?_,wk⟩;rcases st with ⟨_,rfl⟩ | ⟨j,m,lj,hm,rfl,_⟩
 ·exact xz
 ·exact (iy (t:=z) gd.ord.2 hm).mp (by omega)
theorem rO {ms:List M4}{sp:List Int}(i v:Nat)(h:cB ms sp i=some v):v=aT ms i\/v=aU ms i:=by
 unfold cB at h;split at h
 ·cases h
 ·split at h
  ·cases h;exact .inl rfl
  ·cases h;exact .inr rfl
theorem qQ {W:Nat}{ms:List M4}(gd:Good W ms){s0 w0:Nat}{x z e tot:Int}{ns:List Int}{sp:List Int}{S:List Nat}(hs:s0 < W)(hw:w0 < W)(ne:s0≠w0)(wk:aX ms s0 x (-1) ns=some (w0,e))(le:e<=z)(hn:∀ n:Nat,(n:Int)∈ns->cK (fwd (ms.eraseIdx n) (aI s0 x) w0) z=true)
  (so:Sound (aR ms W) sp) (nt:∀ p,fj (aR ms W) sp p (aR ms W).length=tot * ((if cnt ms z * W + w0=p then 1 else 0) - (if cnt ms x * W + s0=p then 1 else 0))) (nd:S.Nodup) (cl:∀ p∈S,bW (aR ms W) sp S p) (h0:cnt ms x * W + s0∈S) (hg:cnt ms z * W + w0 ∉ S) :
  (∃ e1,e1<=z/\aX ms s0 x (-1) (aG (aT ms) (aU ms) (cB ms sp) (cnt ms x) s0 (cnt ms z - cnt ms x)).1=some (w0,e1)) /\
  (∃ e2,e2<=z/\aX ms s0 x (-1) (aG (aT ms) (aU ms) (cM (cB ms sp) (aG (aT ms) (aU ms) (cB ms sp) (cnt ms x) s0 (cnt ms z - cnt ms x)).1) (cnt ms x) s0 (cnt ms z - cnt ms x)).1=some (w0,e2)) /\
  ∀ n∈(aG (aT ms) (aU ms) (cB ms sp) (cnt ms x) s0 (cnt ms z - cnt ms x)).1,n ∉ (aG (aT ms) (aU ms) (cM (cB ms sp) (aG (aT ms) (aU ms) (cB ms sp) (cnt ms x) s0 (cnt ms z - cnt ms x)).1) (cnt ms x) s0 (cnt ms z - cnt ms x)).1:=by
 have xe:=iE wk;have c1:=uJ gd.ord.2 (show x<=z by omega);have c2:=iz ms z;have ins:∀ j,j < ms.length->aT ms j≠aU ms j/\aT ms j < W/\aU ms j < W:=λj hj=>by
  have e:ms[j]?=some ms[j]:=zL hj;obtain ⟨b1,b2,b3,_⟩:=gd.each ms[j] (zh hj);have el:aT ms j=ms[j].lo.toNat:=by unfold aT;rw [e];rfl
  have eh:aU ms j=ms[j].hi.toNat:=by unfold aU;rw [e];rfl
  rw [el,eh];omega
 obtain ⟨all,each⟩:=VH gd wk le hn;have ct:=SW so nd cl h0 hg nt;have t2:2<=tot:=Nv (x:=x) (λj m hj hm=>(iy (t:=x) gd.ord.2 hm).mp hj) (λj hj=>(ins j hj).2) c1 c2 hw h0 hg ct all each;have L:=Xl (tot:=tot) so (by omega) ins hs hw nt;obtain ⟨w1,w2⟩:=Pu L c1 c2 hs (by
  show 2<=ql ms W sp (cnt ms x) s0 + tot * (if cnt ms x=cnt ms x/\s0=s0 then 1 else 0);rw [if_pos ⟨rfl,rfl⟩];have:0<=ql ms W sp (cnt ms x) s0:=by
   cases cnt ms x with
   | zero=>exact zp _
   | succ i=>
    show 0<=mF ms W sp i s0 + (if s0=aU ms i then gQ sp i else 0) + (if s0=aT ms i then iB sp i else 0);have p1:0<=mF ms W sp i s0:=sf so _;have p2:0<=gQ sp i:=sf so _;have p3:0<=iB sp i:=sf so _;split <;> split <;> omega
  omega)
 refine ⟨pV gd (λi v _=>rO i v) (by omega) w1,pV gd (λi v _ h=>?_) (by omega) w2,λn h1 h2=>?_⟩
 ·unfold cM at h;split at h
  ·cases h
  ·exact rO i v h
 ·obtain ⟨k,_,rfl,h⟩:=jA.mp h2;unfold cM at h;rw [if_pos h1] at h;cases h
noncomputable def oG (o:Option Nat):V:=oV (o.map λv=>(v:Int))
noncomputable def L6 (n:Nat)(g:Nat->Option Nat):List V:=(List.range n).map λi=>oG (g i)
theorem L5 {n i:Nat}{g:Nat->Option Nat}(h:i < n):(L6 n g)[i]?=some (oG (g i)):=by unfold L6;rw [zS,yx h];rfl
theorem jO {n:Nat}{g:Nat->Option Nat}:(L6 n g).length=n:=by unfold L6;rw [zA,yE]
theorem n9 {n:Nat}{g:Nat->Option Nat}:L6 (n + 1) g=L6 n g++[oG (g n)]:=by unfold L6;rw [xH,zI];rfl
noncomputable def NO:Sp:=λvs H Q _=>∃ t l,∃ m:M4,∃ th bk:Int,vs=[.ref t,.ref l]/\H t=some (.tup m.vs)/\H l=some (.lst [.int th,.int bk])/\0<=m.lo/\0<=m.hi/\Q (oG (if th=bk then none else if bk < th then some m.lo.toNat else some m.hi.toNat)) H
structure Q5 (ms:List M4) (W s w:Nat) (a z:Int) (sp:List Int) (tot:Int) (S:List Nat):Prop where
 so:Sound (aR ms W) sp
 nt:∀ p,fj (aR ms W) sp p (aR ms W).length=tot * ((if cnt ms z * W + w=p then 1 else 0) - (if cnt ms a * W + s=p then 1 else 0))
 nd:S.Nodup
 cl:∀ p∈S,bW (aR ms W) sp S p
 h0:cnt ms a * W + s∈S
 hg:cnt ms z * W + w ∉ S
noncomputable def Pg (C:Addr):Sp:=λvs H Q _=>∃ b lt,∃ s w:Nat,∃ a z af tr tm ps,vs=[.ref b,.ref lt]/\aN H b af tr tm ps/\1<=af.length/\af.length<=12/\Good af.length (ps.map (·.2))/\dY H lt af.length s w a z/\s≠w /\
 ∀ l sp tot S H',aB H H'->H l=none->H' l=some (.lst (L6 ps.length (cB (ps.map (·.2)) sp)))->Q5 (ps.map (·.2)) af.length s w a z sp tot S->Q (.ref l) H'
noncomputable def NP:Sp:=λvs H Q _=>∃ b lt lg,∃ s w:Nat,∃ a z af tr tm ps g,vs=[.ref b,.ref lt,.ref lg]/\aN H b af tr tm ps/\af.length<=1000/\Good af.length (ps.map (·.2))/\dY H lt af.length s w a z/\H lg=some (.lst (L6 ps.length g))/\(∀ i v,i < ps.length->g i=some v->v=aT (ps.map (·.2)) i\/v=aU (ps.map (·.2)) i) /\
 ∀ l H',aB H H'->H l=none->H' l=some (.lst (List.map V.int (aG (aT (ps.map (·.2))) (aU (ps.map (·.2))) g (cnt (ps.map (·.2)) a) s (cnt (ps.map (·.2)) z - cnt (ps.map (·.2)) a)).1))->Q (.ref l) H'
structure gw (F:Addr->Prop) (H:Hp) (ms:List M4) (s w:Nat) (a z:Int) (l1 l2:Addr) (c1 c2:List Int):Prop where
 ne:l1≠l2
 f1:F l1
 f2:F l2
 h1:H l1=some (.lst (List.map V.int c1))
 h2:H l2=some (.lst (List.map V.int c2))
 w1:∃ e,e<=z/\aX ms s a (-1) c1=some (w,e)
 w2:∃ e,e<=z/\aX ms s a (-1) c2=some (w,e)
 dj:∀ n∈c1,n ∉ c2
noncomputable def RC (C:Addr):Sp:=λvs H Q _=>∃ b lt,∃ s w:Nat,∃ a z af tr tm ps e ns,vs=[.ref b,.ref lt]/\aN H b af tr tm ps/\1<=af.length/\af.length<=12/\Good af.length (ps.map (·.2))/\dY H lt af.length s w a z/\s≠w/\aX (ps.map (·.2)) s a (-1) ns=some (w,e)/\e<=z/\(∀ n:Nat,(n:Int)∈ns->cK (fwd ((ps.map (·.2)).eraseIdx n) (aI s a) w) z=true) /\
 ∀ t l1 l2 c1 c2 H',aB H H'->H' t=some (.tup [.ref l1,.ref l2])->gw (λl=>H l=none) H' (ps.map (·.2)) s w a z l1 l2 c1 c2->Q (.ref t) H'
noncomputable def Q3 (F:Addr->Prop)(H:Hp)(n:Nat)(ms:List M4)(s w:Nat)(a z:Int)(t:Addr):Prop:=
 (cK (fwd ms (aI s a) w) z=false/\∃ l,H t=some (.tup [.str "none", .ref l])/\F l/\H l=some (.lst ((rep n (fwd ms (aI s a))).map oV))) \/
 (cK (fwd ms (aI s a) w) z=true/\∃ (k:Nat) (l:Addr),k < ms.length/\cK (fwd (ms.eraseIdx k) (aI s a) w) z=false/\H t=some (.tup [.str "one", .int (k:Int),.ref l])/\F l/\H l=some (.lst ((rep n (fwd (ms.eraseIdx k) (aI s a))).map oV))) \/
 (∃ l1 l2 c1 c2,H t=some (.tup [.str "two", .ref l1,.ref l2])/\gw F H ms s w a z l1 l2 c1 c2)
noncomputable def Pc (T:Addr)(lp:Pos):Sp:=λvs H Q _=>∃ b lt,∃ s w:Nat,∃ a z af tr tm ps,vs=[.ref b,.ref lt]/\aN H b af tr tm ps/\1<=af.length/\af.length<=12/\(∀ r∈af,(0:Int)<=r/\r<=99)/\Good af.length (ps.map (·.2))/\dY H lt af.length s w a z/\MT T lp dS H /\
 ∀ t H',bY T H H'->MT T lp dS H'->Q3 (λl=>H l=none) H' af.length (ps.map (·.2)) s w a z t->Q (.ref t) H'
theorem MT.free {T:Addr}{lp:Pos}{q:Str}{H H1:Hp}(t6:MT T lp q H1)(b:bY T H H1){l:Addr}(h:H1 l=none):H l=none:=by
 cases e:H l with
 | none=>rfl
 | some o=>
  by_cases z:l=T
  ·rcases t6 with m | ⟨_,m,_⟩ <;> (rw [<-z,h] at m;cases m)
  ·rw [b _ _ z e] at h;cases h
theorem gw.same {F:Addr->Prop}{H H':Hp}{ms:List M4}{s w:Nat}{a z:Int}{l1 l2:Addr}{c1 c2:List Int}(p:gw F H ms s w a z l1 l2 c1 c2)(e:aB H H'):gw F H' ms s w a z l1 l2 c1 c2:=⟨p.ne,p.f1,p.f2,e _ _ p.h1,e _ _ p.h2,p.w1,p.w2,p.dj⟩
theorem gw.to {F F':Addr->Prop}{H:Hp}{ms:List M4}{s w:Nat}{a z:Int}{l1 l2:Addr}{c1 c2:List Int}(p:gw F H ms s w a z l1 l2 c1 c2)(e:∀ l,F l->F' l):gw F' H ms s w a z l1 l2 c1 c2:=⟨p.ne,e _ p.f1,e _ p.f2,p.h1,p.h2,p.w1,p.w2,p.dj⟩
theorem Nx {F:Addr->Prop}{H:Hp}{ms:List M4}{s w:Nat}{a z:Int}{l1 l2:Addr}(e:s=w)(az:a<=z)(ne:l1≠l2)(f1:F l1)(f2:F l2)(h1:H l1=some (.lst []))(h2:H l2=some (.lst [])):gw F H ms s w a z l1 l2 [] []:=
 ⟨ne,f1,f2,h1,h2,⟨a,az,by rw [e];rfl⟩,⟨a,az,by rw [e];rfl⟩,λ_ h=>nomatch h⟩
theorem ND {ms:List M4}{W q:Nat}:iQ ms W ms.length++(List.range (q + 1)).map (λq=>(⟨q,q + W,2⟩:bX))=(iQ ms W ms.length++(List.range q).map λq=>(⟨q,q + W,2⟩:bX))++[⟨q,q + W,2⟩]:=by rw [xH,zI,xJ];rfl
theorem Sg {C:Addr}{H:Hp}{x dx lA lE lS:Addr}{as:List Addr}{src:Int}{n:Nat}{ts:List bX}{sp:List Int}(a:lW C H x dx lA lE lS as src n ts sp):∀ b∈x::lA::lE::lS::as,∀ xs,H b≠some (.tup xs):=by
 intro b hb xs e;rcases zH.mp hb with rfl | hb
 ·rw [a.raw.ins] at e;cases e
 rcases zH.mp hb with rfl | hb
 ·rw [a.raw.lU] at e;cases e
 rcases zH.mp hb with rfl | hb
 ·rw [a.raw.ends] at e;cases e
 rcases zH.mp hb with rfl | hb
 ·rw [a.raw.jc] at e;cases e
 obtain ⟨i,hi⟩:=zx hb;rw [a.raw.rws i _ hi] at e;cases e
theorem lW.Ub {C:Addr}{H H':Hp}{x dx lA lE lS:Addr}{as:List Addr}{src:Int}{n:Nat}{ts:List bX}{sp:List Int}{M:List Addr}(a:lW C H x dx lA lE lS as src n ts sp)(k:bf M H H')(f:∀ b∈M,b∈x::lA::lE::lS::as):bV H H':=λb xs e=>k b _ (λh=>Sg a b (f b h) xs e) e
noncomputable def ju (W:Nat)(y:W4):bX:=⟨y.n * W + y.w.g,y.n * W + W + y.w.o,1⟩
theorem O7 {ms:List M4}{W i:Nat}:iQ ms W i=(dI ms i).map (ju W):=rfl
theorem OZ {W:Nat}{ms:List M4}(gd:Good W ms){i:Nat}{y:W4}(h:y∈dI ms i):y.n < ms.length/\y.w.g < W/\y.w.o < W:=by have l:=ja h;obtain ⟨a1,a2,_⟩:=u0.inside gd l;obtain ⟨m,hm,_⟩:=l;exact ⟨(zC.mp hm).1,a1,a2⟩
theorem MN {W N n v:Nat}(hn:n<=N)(hv:v < W):n * W + v < W * (N + 1):=by have:(n + 1) * W<=(N + 1) * W:=Nat.mul_le_mul_right _ (by omega);rw [yS] at this;rw [xX W];omega
theorem NT {W N:Nat}(hW:W<=12)(hN:N<=60):W * (N + 1)<=732/\W * N<=720:=by have h1:W * (N + 1)<=12 * 61:=Nat.mul_le_mul hW (by omega);have h2:W * N<=12 * 60:=Nat.mul_le_mul hW hN;omega
theorem SV {f:Nat->V}{n i:Nat}(h:2 * i + 2<=n):Mh ((List.range n).map f) (some ((2 * i:Nat):Int)) (some ((2 * i + 2:Nat):Int))=[f (2 * i),f (2 * i + 1)]:=by
 unfold Mh;rw [HT.MI,HT.MI,zA,yE,Nat.min_eq_left h,Nat.min_eq_left (show 2 * i<=n by omega),show 2 * i + 2 - 2 * i=2 by omega];apply List.ext_getElem?
 intro j;rw [List.getElem?_take,List.getElem?_drop,zS]
 match j with
 | 0=>rw [if_pos (by omega),yx (by omega)];rfl
 | 1=>rw [if_pos (by omega),yx (by omega)];rfl
 | j + 2=>rw [if_neg (by omega)];rfl
noncomputable def iL (n:Nat):List V:=(List.range n).map λk:Nat=>V.int (k:Int)
theorem Sw {n:Nat}:iL (n + 1)=iL n++[V.int (n:Int)]:=by unfold iL;rw [xH,zI];rfl
theorem rK {n:Nat}:(iL n).length=n:=by unfold iL;rw [zA,yE]
theorem Xs {n k:Nat}{v:V}(h:(iL n)[k]?=some v):k < n/\v=.int (k:Int):=by have l:=(zC.mp h).1;rw [rK] at l;unfold iL at h;rw [zS,yx l] at h;exact ⟨l,(Option.some.inj h).symm⟩
theorem kW {ms:List M4}:∀ {cs:List Int}{s:Nat}{y A:Int}{r:Nat×Int},aX ms s y A cs=some r->∀ c∈cs,∃ (k:Nat) (m:M4),c=(k:Int)/\ms[k]?=some m
 | [],_,_,_,_,_,c,hc=>by cases hc
 | n::cs,s,y,A,r,h,c,hc=>by
  obtain ⟨m,hm,_,n0,_,_,rest⟩:=dF h;rcases zH.mp hc with rfl | hc
  ·obtain ⟨k,rfl⟩:=zl n0;exact ⟨k,m,rfl,by rw [zy] at hm;exact hm⟩
  ·exact kW rest c hc
theorem dG {c:List Int}:(List.map V.int c).all dB=true:=by rw [yj];intro y hy;obtain ⟨n,_,rfl⟩:=zP.mp hy;rfl
noncomputable def lO (n:Nat)(k:Int):Int:=if (n:Int) < k then k - 1 else k
theorem pM {ms:List M4}{n:Nat}:∀ {c:List Int}{v:Nat}{t A:Int}{r:Nat×Int},aX ms v t A c=some r->(n:Int) ∉ c->A≠n->aX (ms.eraseIdx n) v t (lO n A) (c.map (lO n))=some r
 | [],v,t,A,r,h,_,_=>h
 | k::c,v,t,A,r,h,nn,An=>by
  obtain ⟨m,hm,Ak,k0,hv,lt,wk⟩:=dF h;have kn:k≠n:=λe=>nn (by rw [e];exact .head _);have ih:=pM wk (λz=>nn (.tail _ z)) kn;show aX (ms.eraseIdx n) v t (lO n A) (lO n k::c.map (lO n))=some r;unfold aX;have oU:(ms.eraseIdx n)[(lO n k).toNat]?=some m:=by
   rw [List.getElem?_eraseIdx];unfold lO;by_cases d:(n:Int) < k
   ·rw [if_pos d,if_neg (by omega),<- hm];congr 1;omega
   ·rw [if_neg d,if_pos (by omega)];exact hm
  rw [oU];dsimp only;rw [if_pos]
  ·exact ih
  ·refine ⟨?_,?_,hv,lt⟩
   ·unfold lO;split <;> split <;> omega
   ·unfold lO;split <;> omega
theorem mX {ms:List M4}{n s w:Nat}{a e:Int}{c:List Int}(h:aX ms s a (-1) c=some (w,e))(nn:(n:Int) ∉ c):aX (ms.eraseIdx n) s a (-1) (c.map (lO n))=some (w,e):=by have:=pM h nn (by omega);rw [show lO n (-1)=-1 from by unfold lO;rw [if_neg (by omega)]] at this;exact this
theorem vR {W:Nat}{ms:List M4}(gd:Good W ms){s w:Nat}{a z:Int}{c1 c2:List Int}(w1:∃ e,e<=z/\aX ms s a (-1) c1=some (w,e))(w2:∃ e,e<=z/\aX ms s a (-1) c2=some (w,e))(dj:∀ n∈c1,n ∉ c2)(n:Nat):cK (fwd (ms.eraseIdx n) (aI s a) w) z=true:=by
 have one:∀ {c:List Int},(∃ e,e<=z/\aX ms s a (-1) c=some (w,e))->(n:Int) ∉ c->cK (fwd (ms.eraseIdx n) (aI s a) w) z=true:=λ{c} h nn=>by
  obtain ⟨e,le,h⟩:=h;obtain ⟨y,hy,l⟩:=bq.mp (fO (gd.sub (yP _ _)) (mX h nn));exact bq.mpr ⟨y,hy,by omega⟩
 by_cases c:(n:Int)∈c1
 ·exact one w2 (dj n c)
 ·exact one w1 c
theorem pK {W:Nat}{ms:List M4}(gd:Good W ms){s w:Nat}{a z:Int}{c:List Int}(h:∃ e,e<=z/\aX ms s a (-1) c=some (w,e)):cK (fwd ms (aI s a) w) z=true:=by obtain ⟨e,le,h⟩:=h;obtain ⟨y,hy,l⟩:=bq.mp (fO gd h);exact bq.mpr ⟨y,hy,by omega⟩
noncomputable def cG (ms:List M4)(x:L4):Nat->List Int
 | 0=>[]
 | i + 1=>cG ms x i++(if bg ms i x=true then [(i:Int)] else [])
theorem nQ (ms:List M4)(x:L4):∀ i,(cG ms x i).length<=i
 | 0=>zD _
 | i + 1=>by
  have:=nQ ms x i;unfold cG;rw [zE];split
  ·show _ + 1<=_;omega
  ·show _ + 0<=_;omega
theorem nO {ms:List M4}{x:L4}(h:∀ n,bg ms n x=false):∀ i,cG ms x i=[]
 | 0=>rfl
 | i + 1=>by unfold cG;rw [nO h i,h i];rfl
theorem nP {ms:List M4}{x:L4}{k:Nat}(h:bg ms k x=true):∀ {i},k < i->(k:Int)∈cG ms x i
 | 0,l=>by omega
 | i + 1,l=>by
  unfold cG;by_cases c:k=i
  ·subst c;rw [if_pos h];exact zK _ (.head _)
  ·exact zd _ (nP h (by omega))
theorem di {f:L4->Bool}{ls:List L4}{k:Nat}{x:L4}(hx:ls[k]?=some x):∀ {i},k < i->(decide ((k:Int)∈pick f ls i)=f x)
 | 0,l=>by omega
 | i + 1,l=>by
  by_cases c:k=i
  ·subst c;have no:(k:Int) ∉ pick f ls k:=λh=>by
    have:∀ {j}{z:Int},z∈pick f ls j->z < j:=by
     intro j;induction j with
     | zero=>intro z h;cases h
     | succ j ih=>
      intro z h;unfold pick at h;rcases zT.mp h with h | h
      ·have:=ih h;omega
      ·split at h
       ·split at h
        ·rw [zF.mp h];omega
        ·cases h
       ·cases h
    have:=this h;omega
   cases e:f x with
   | true=>rw [gX hx e];exact decide_eq_true (zK _ (.head _))
   | false=>rw [iI hx e];exact decide_eq_false no
  ·rw [<-di (f:=f) hx (show k < i by omega)];apply decide_eq_decide.mpr;show (k:Int)∈pick f ls i++_↔_;rw [zT];constructor
   ·rintro (h | h)
    ·exact h
    ·split at h
     ·split at h
      ·have:=zF.mp h;omega
      ·cases h
     ·cases h
   ·exact .inl
noncomputable abbrev Ds:=List (V×Option (Int×Int))
noncomputable def aaB (ms:List M4)(d:Option (Int×Int)):Bool:=match d with
 | none=>false
 | some (k,g)=>decide (0<=k) && (decide (k < ms.length) && (match ms[k.toNat]? with | some m=>decide (g=m.lo) || decide (g=m.hi) | none=>false))
noncomputable def ttr (ms:List M4):Fn->Int->List (Option (Int×Int))->Option Fn
 | f,_,[]=>some f
 | _,_,none::_=>none
 | f,bh,some (k,g)::r=>match ms[k.toNat]? with
  | none=>none
  | some m=>if aaB ms (some (k,g))=true/\bh < k/\below (f g.toNat) m.t=true then ttr ms (aJ f ⟨g.toNat,(if g=m.lo then m.hi else m.lo).toNat,m.t⟩) k r else none
noncomputable def tt (ms:List M4)(s:Nat)(a:Int):Option Ds->Option Fn
 | none=>none
 | some ps=>ttr ms (aI s a) (-1) (ps.map (·.2))
section
variable {K:PySem.W.Frag}{H:Hp}{σ:St}{lt p:Addr}{n g:Nat}{f:Fn}{t:Int}{Q:VK}
end
section
variable {K:PySem.W.Frag}{H:Hp}{a b:Addr}{xs ys:List V}{lo hi:Option Int}{Q:VK}
end
section
variable {K:PySem.W.Frag}{D:Ends}{σ:St}{HI H:Hp}{l la lb lf:Addr}{x:V}{ss A C:List (Addr×Int×Int)}{n:Nat}{o:Option (Int×Int)}
end
section
variable {K:PySem.W.Frag}{D:Ends} {HI H0:Hp}{l la lb lf lm:Addr}{ms:List V}{ss A C:List (Addr×Int×Int)}{n:Nat} {s0 s1 s2 s3 s4 s5 s6 s8:Option V}
end
section
variable {K:PySem.W.Frag}{σ:St}{H:Hp}
end
section
variable {K:PySem.W.Frag}{σ:St}{H:Hp}
end
noncomputable def RJ (C:Addr):Sp:=λvs H Q E=>∃ b x t af tr tm ps,vs=[.ref b,x]/\aN H b af tr tm ps/\jr H x=some t/\(eX 0 ((ps.length:Int) - 1) x=true->Q .cI H)/\(eX 0 ((ps.length:Int) - 1) x=false->E (.ref C) none H)
theorem Sn {k:Nat}{x:Int}:aI k x k=some x:=by unfold aI;rw [if_pos rfl]
end Sm
namespace L2
open PySem PySem.Spec PyProof.Rows
section
variable {P:Program}{w:World}{K:PySem.W.Frag}{mg:Str->Option Value}{base:Heap}
theorem bI.ZJ {x qual:Str}{st:Stmt}{f c:Addr}{fd:FuncData}{N ps:List Str}{k:Nat}{sp:Sp}(F:bI K x qual st f fd)(hc:fd.code=.ref c)(S:aA N ps (av st))(len:∀ vs H Q E,sp vs H Q E->vs.length=ps.length)
  (ir:∀ (A:Around) (outer:List Env) (s:Shared) (H:Hp) (vs:List V) (Q:VK) (E:XK),cJ k (A.deeper (envOfC qual (av st) s.heap.objs.size f (.ref c)))->sp vs H Q E ->
   ∃ t,qK ((iu (vc P w) P w K mg base N qual (av st) f (.ref c) A outer s H E).exc E) (gg st) t/\t { nx:=λ_ H'=>Q .cI H',rt:=Q } (start N vs) H):aV P w K mg base (vc P w) (k + 1) f fd ps sp:=by
 obtain ⟨oc,od,kV,doc,pm,an,bZ,ct,Rc,rfl,lk,rN⟩:=F.ex;have hc:bZ=.ref c:=hc;subst hc;refine QG lk rN S len λA outer s H vs Q E hr um=>?_;obtain ⟨t,h,q⟩:=ir A outer s H vs Q E hr um;refine ⟨t,λaa s1 σ H1 D I hw=>?_,q⟩;exact wpAny_mono (h aa s1 σ H1 D (I.iP _) hw) (λ_ _ z=>z.cE) λe s2 z=>pJ (base:=base) I.ok.frames rfl I.ok.gc z.2
end
end L2
namespace Sm
open PySem L2 aZ
structure su where
 lo:Int
 hi:Int
 x:V
 m:Int
noncomputable def su.vs (r:su):List V:=[.int r.lo,.int r.hi,r.x,.int r.m]
noncomputable def su.Yb (w:Int)(r:su):Prop:=0<=r.lo/\r.lo < w/\0<=r.hi/\r.hi < w/\r.lo≠r.hi/\1<=r.m/\r.m<=99
noncomputable def NN:Sp:=λvs H Q _=>∃ w t ty,∃ r:su,vs=[.int w,.ref t]/\H t=some (.tup r.vs)/\r.Yb w/\jr H r.x=some ty/\Q (.bl (eX 1 1000000000 r.x)) H
noncomputable def S3 (H:Hp)(pr pm:Addr):Prop:=∃ af,∃ fs:List (Addr×su),H pr=some (.lst (List.map V.int af))/\1<=af.length/\af.length<=12/\(∀ r∈af,(0:Int)<=r/\r<=99)/\H pm=some (.lst (fs.map λa=>V.ref a.1))/\fs.length<=60/\(∀ r∈fs,H r.1=some (.tup r.2.vs)/\r.2.Yb af.length/\∃ ty,jr H r.2.x=some ty)/\∃ r∈fs,eX 1 1000000000 r.2.x=false
theorem nU {f:Fn}:∀ {ws:List W3}{st:Fn},(∀ x∈ws,below (f x.g) x.t=true->cK (f x.o) x.t=true)->(∀ i y,st i=some y->cK (f i) y=true)->∀ i y,ws.foldl aJ st i=some y->cK (f i) y=true
 | [],_,_,h,i,y,e=>h i y e
 | x::ws,st,hc,h,i,y,e=>by
  refine nU (st:=aJ st x) (λz hz=>hc z (.tail _ hz)) (λj u hj=>?_) i y e;unfold aJ at hj;split at hj
  ·rename_i c;by_cases ej:j=x.o
   ·subst ej;rw [dP] at hj;cases hj;obtain ⟨v,ev,lv⟩:=bO.mp c.2;obtain ⟨u,eu,lu⟩:=bq.mp (h _ _ ev);exact hc x (.head _) (bO.mpr ⟨u,eu,by omega⟩)
   ·rw [jd ej] at hj;exact h j u hj
  ·exact h j u hj
theorem OA {n s:Nat}{a:Int}{ms:List M4}(g:Good n ms){x:W3}(hx:x∈bN ms)(h:below (fwd ms (aI s a) x.g) x.t=true):cK (fwd ms (aI s a) x.o) x.t=true:=by have:=yj.mp (jQ (s:=s) (x:=a) g) x hx;simpa [h] using this
theorem qq {i:Nat}{y:Int}:∀ {ws:List W3}{st:Fn},st i=some y->ws.foldl aJ st i=some y
 | [],_,h=>h
 | x::ws,st,h=>qq (ws:=ws) (st:=aJ st x) (cV h)
theorem QD (ms:List M4)(s:Nat)(a:Int):fwd ms (aI s a) s=some a:=qq Sn
theorem Nq {Xf ms:List M4}(h:∀ m∈Xf,m∈ms){x:W3}(hx:x∈bN Xf):x∈bN ms:=by obtain ⟨m,hm,hx⟩:=yk.mp hx;exact yk.mpr ⟨m,h m hm,hx⟩
theorem QE {n s:Nat}{a a':Int}{ms Xf:List M4}(g:Good n ms)(h:∀ m∈Xf,m∈ms)(la:a<=a'){i:Nat}{y:Int}(e:fwd Xf (aI s a') i=some y):cK (fwd ms (aI s a) i) y=true:=by
 refine nU (λx hx=>OA (s:=s) (a:=a) g (Nq h hx)) (λj u hj=>?_) i y e;unfold aI at hj;split at hj
 ·rename_i ej;subst ej;cases hj;rw [QD];exact bq.mpr ⟨a,rfl,la⟩
 ·cases hj
noncomputable def Ro (a b:M4):Prop:=a.t=b.t->apart a b
noncomputable def VU (w:Int)(ms:List M4):Prop:=∀ r∈ms,0<=r.lo/\r.lo < w/\0<=r.hi/\r.hi < w/\r.lo≠r.hi/\1<=r.t/\r.t<=1000000000/\1<=r.m/\r.m<=99
noncomputable def Pb:Sp:=λvs H Q _=>∃ l fs w,vs=[.ref l]/\jn H l fs/\fs.length<=60/\VU w (fs.map (·.2))/\((fs.map (·.2)).Pairwise Ro->∀ H',aB H H'->Q (.bl false) H')/\(¬ (fs.map (·.2)).Pairwise Ro->∀ H',aB H H'->Q (.bl true) H')
theorem R1 {α:Type}{R:α->α->Prop}{l:List α}{x:α}(h:l.Pairwise R)(hx:∀ y∈l,R y x):(l++[x]).Pairwise R:=
 yr.mpr ⟨h,ya _ _,λy hy z hz=>by rw [zF.mp hz];exact hx y hy⟩
theorem UP {α:Type}{R:α->α->Prop}{l:List α}{i j:Nat}{x y:α}(hi:l[i]?=some x)(hj:l[j]?=some y)(lt:i < j)(n:¬ R x y):¬ l.Pairwise R:=λh=>by
 obtain ⟨li,rfl⟩:=zC.mp hi;obtain ⟨lj,rfl⟩:=zC.mp hj;exact n (zw.mp h i j li lj lt)
noncomputable def RK (C T:Addr)(lp:Pos):Sp:=λvs H Q E=>Ut T lp vs H Q E\/(∃ pr pm,vs=[.ref pr,.ref pm]/\S3 H pr pm/\∀ H',aB H H'->E (.ref C) none H') \/
 ∃ pr pm af fs,vs=[.ref pr,.ref pm]/\H pr=some (.lst (List.map V.int af))/\1<=af.length/\af.length<=12/\(∀ r∈af,(0:Int)<=r/\r<=99)/\jn H pm fs/\fs.length<=60/\VU af.length (fs.map (·.2))/\¬ (fs.map (·.2)).Pairwise Ro/\∀ H',aB H H'->E (.ref C) none H'
section
variable {K:PySem.W.Frag}{T:Addr}{lp:Pos}{H H':Hp}{sa:Addr}{ns:List Int}{b:Addr}{af:List Int}{tr tm:Addr}{ps:List (Addr×M4)} {t0 t1 t2 p:Addr}
end
noncomputable def gH (w:Int)(m:M4):M4:=⟨m.lo,m.hi,w,m.m⟩
noncomputable def Pd (CM CB T:Addr)(lp:Pos):Sp:=λvs H Q E=>∃ b x y tx ty af tr tm ps,vs=[.ref b,x,y]/\aN H b af tr tm ps/\1<=af.length/\af.length<=12/\(∀ r∈af,(0:Int)<=r/\r<=99)/\Good af.length (ps.map (·.2))/\jr H x=some tx/\jr H y=some ty /\
 ((eX 0 ((ps.length:Int) - 1) x=false/\E (.ref CM) none H) \/
  (∃ n:Nat,∃ m,x=.int (n:Int)/\(ps.map (·.2))[n]?=some m/\eX 1 1000000000 y=false/\∀ H',aB H H'->E (.ref CB) none H') \/
  (∃ n:Nat,∃ m w,x=.int (n:Int)/\(ps.map (·.2))[n]?=some m/\y=.int w/\1<=w/\w<=1000000000/\¬ ((ps.map (·.2)).set n (gH w m)).Pairwise Ro/\∀ H',aB H H'->E (.ref CB) none H') \/
  (∃ n:Nat,∃ m w,x=.int (n:Int)/\(ps.map (·.2))[n]?=some m/\y=.int w/\1<=w/\w<=1000000000/\((ps.map (·.2)).set n (gH w m)).Pairwise Ro/\MT T lp dS H /\
   ∀ b' lY lZ fF H',bY T H H'->MT T lp dS H'->aN H' b' af lY lZ fF->Good af.length (fF.map (·.2))->(fF.map (·.2)).Perm ((ps.map (·.2)).set n (gH w m))->Q (.ref b') H'))
theorem rj {f:L4->Bool}{ls:List L4}:∀ {j}{z:Int},z∈pick f ls j->0<=z/\z < j
 | 0,z,h=>by cases h
 | j + 1,z,h=>by
  unfold pick at h;rcases zT.mp h with h | h
  ·have:=rj h;omega
  ·split at h
   ·split at h
    ·rw [zF.mp h];omega
    ·cases h
   ·cases h
theorem tL {f g:L4->Bool}{ls:List L4}{N:Nat}(hN:N=ls.length):∀ {j},j<=N->(pick f ls j).filter (λz=>decide (z ∉ pick g ls N))=pick (λx=>f x && !g x) ls j
 | 0,_=>rfl
 | j + 1,hj=>by
  have hx:ls[j]?=some ls[j]:=zL (by omega);have ih:=tL (f:=f) (g:=g) hN (show j<=N by omega);have m:=di (f:=g) hx (show j < N by omega);generalize ls[j]=x at hx m;cases ef:f x with
  | false=>rw [iI hx ef,ih,iI hx (by rw [ef];rfl)]
  | true=>
   rw [gX hx ef,List.filter_append,ih];cases eg:g x with
   | false=>
    rw [eg] at m;have:=of_decide_eq_false m;rw [gX hx (by rw [ef,eg];rfl)];simp [this]
   | true=>
    rw [eg] at m;have:=of_decide_eq_true m;rw [iI hx (by rw [ef,eg];rfl)];simp [this]
theorem NW {ms:List M4}{n:Nat}{ls:List L4}:(pick (aH ms) ls ls.length).filter (λz=>decide (z ∉ pick (aH (ms.eraseIdx n)) ls ls.length))=pick (bg ms n) ls ls.length:=tL rfl (zD _)
theorem Sl {W:Nat}{ms:List M4}(gd:Good W ms){n:Nat}{x:L4}{c:List Int}{e:Int}(h:bg ms n x=true)(wk:aX ms x.s x.a (-1) c=some (x.w,e))(le:e<=x.z):(n:Int)∈c:=by refine Classical.byContradiction λnn=>?_;have:=pK (gd.sub (yP ms n)) ⟨e,le,mX wk nn⟩;unfold bg aH at h;rw [this] at h;simp at h
theorem t7 {W:Nat}{ms ns:List M4}{n:Nat}{r:M4}(gd:Good W ns)(p:ns.Perm (ms.set n r)){x:L4}(h:aH (ms.eraseIdx n) x=true):aH ns x=true:=by
 unfold aH at h ⊢;obtain ⟨y,hy,l⟩:=bq.mp h;have sub:∀ m∈ms.eraseIdx n,m∈ns:=λm hm=>by
  rw [p.mem_iff];obtain ⟨j,hj⟩:=zx hm;rw [List.getElem?_eraseIdx] at hj;split at hj
  ·exact zB (i:=j) (by rw [List.getElem?_set_ne (by omega)];exact hj)
  ·exact zB (i:=j + 1) (by rw [List.getElem?_set_ne (by omega)];exact hj)
 obtain ⟨y',Tt,l'⟩:=bq.mp (QE gd sub (zp _) hy);exact bq.mpr ⟨y',Tt,by omega⟩
noncomputable def Pa:Sp:=λvs H Q _=>∃ b lw af tr tm ps ls,vs=[.ref b,.ref lw]/\aN H b af tr tm ps/\af.length<=12/\Good af.length (ps.map (·.2))/\dX H lw af.length ls/\ls.length<=100/\∀ l H',aB H H'->H l=none->H' l=some (.lst (List.map V.int (pick (aH (ps.map (·.2))) (ls.map (·.2)) ls.length)))->Q (.ref l) H'
noncomputable def dW (H:Hp)(lb:Addr)(as:List Addr)(ms:List M4)(ls:List L4):Prop:=H lb=some (.lst (as.map V.ref))/\∀ k a,as[k]?=some a->H a=some (.lst (List.map V.int (pick (bg ms k) ls ls.length)))
theorem dW.same {H H':Hp}{lb:Addr}{as:List Addr}{ms:List M4}{ls:List L4}(h:dW H lb as ms ls)(s:aB H H'):dW H' lb as ms ls:=⟨s _ _ h.1,λk a hk=>s _ _ (h.2 k a hk)⟩
theorem dW.but {T:Addr}{lp:Pos}{q:Str}{H H':Hp}{lb:Addr}{as:List Addr}{ms:List M4}{ls:List L4}(h:dW H lb as ms ls)(m:MT T lp q H)(b:bY T H H'):dW H' lb as ms ls:=⟨MT.keep m b h.1 (by intro ys z;cases z),λk a hk=>MT.keep m b (h.2 k a hk) (by intro ys z;cases z)⟩
theorem dX.OD {T:Addr}{lp:Pos}{q:Str}{H H':Hp}{l:Addr}{n:Nat}{ls:List (Addr×L4)}(h:dX H l n ls)(m:MT T lp q H)(b:bY T H H'):dX H' l n ls:=⟨MT.keep m b h.1 (by intro ys z;cases z),λx hx=>(h.2 x hx).aS (MT.fz m b)⟩
noncomputable def NK (T:Addr)(lp:Pos):Sp:=λvs H Q _=>∃ b lw lb af tr tm ps ls as,vs=[.ref b,.ref lw,.ref lb]/\aN H b af tr tm ps/\1<=af.length/\af.length<=12/\(∀ r∈af,(0:Int)<=r/\r<=99)/\Good af.length (ps.map (·.2))/\dX H lw af.length ls/\ls.length<=100/\as.length=ps.length/\dW H lb as (ps.map (·.2)) (ls.map (·.2))/\MT T lp dS H/\∀ H',bY T H H'->MT T lp dS H'->Q (.bl true) H'
noncomputable def Us (T:Addr)(lp:Pos):Sp:=λvs H Q _=>∃ b,∃ n:Nat,∃ w m af tr tm ps,vs=[.ref b,.int (n:Int),.int w]/\aN H b af tr tm ps/\1<=af.length/\af.length<=12/\(∀ r∈af,(0:Int)<=r/\r<=99)/\Good af.length (ps.map (·.2))/\(ps.map (·.2))[n]?=some m/\1<=w/\w<=1000000000/\MT T lp dS H/\(∀ H',aB H H'->Q .cI H') /\
 ∀ b' lY lZ fF H',bY T H H'->MT T lp dS H'->aN H' b' af lY lZ fF->Good af.length (fF.map (·.2))->(fF.map (·.2)).Perm ((ps.map (·.2)).set n (gH w m))->Q (.ref b') H'
theorem NC {F:Addr->Prop}{H:Hp}{n:Nat}{ms:List M4}{x:L4}{t:Addr}(gd:Good n ms)(h:Q3 F H n ms x.s x.w x.a x.z t) :
  (aH ms x=false/\∃ ys,H t=some (.tup (.str "none" :: ys)))\/(aH ms x=true/\∃ (k:Nat) (l:Addr),(k:Int)∈cG ms x ms.length/\H t=some (.tup [.str "one", .int (k:Int),.ref l]))\/(aH ms x=true/\cG ms x ms.length=[]/\∃ ys,H t=some (.tup (.str "two" :: ys))):=by
 rcases h with ⟨no,l,hT,_⟩ | ⟨yes,k,l,hk,no,hT,_⟩ | ⟨l1,l2,c1,c2,hT,p⟩
 ·exact .inl ⟨no,_,hT⟩
 ·exact .inr (.inl ⟨yes,k,l,nP (by unfold bg aH;rw [yes,no];rfl) hk,hT⟩)
 ·refine .inr (.inr ⟨pK gd p.w1,nO (λn=>?_) _,_,hT⟩);unfold bg aH;rw [vR gd p.w1 p.w2 p.dj n,Bool.not_true,xK]
end Sm
namespace L2
open PySem PySem.Spec PyProof.Rows
theorem iX {X:Cx}{K:PySem.W.Frag}(hK:X.K=K):gO X (compareOp .NotIn) (YA K true):=by subst hK;exact dD
end L2
namespace Sm
open PySem L2
theorem eU:1002<=sizeLine:=by rw [sizeLine_eq];decide
end Sm


namespace L2
open PySem PySem.Spec PyProof.Rows
theorem bQ {N P:List Str}{sc:Scope}(a:sc.kind=.function:=by rfl)(b:sc.isCoroutine=false:=by rfl)(c:sc.isGenerator=false:=by rfl)(d:N.Nodup:=by decide +kernel)(e:N.take P.length=P:=by rfl)(f:∀ x∈P,sc.names.lookup x=some .local∨sc.names.lookup x=some .cell:=by decide +kernel)(g:∀ y∈sc.names,y.2≠.free:=by decide +kernel):aA N P sc:=⟨a,b,c,d,e,f,g⟩
theorem iw {o:List Str}{c:List Nat}{N:List Str}{s p:Scope}(k:p.kind=.function:=by rfl)(a:∀ y∈p.names,y.2≠.cell:=by decide +kernel)(l:∀ y∈p.names,y.2=.local->p.names.lookup y.1=some .local:=by decide +kernel)(f:∀ y∈p.names,y.2=.free->s.names.lookup y.1=some .cell∨s.names.lookup y.1=some .free:=by decide +kernel)(g:∀ i∈c,i < N.length∧p.names.lookup ((N[i]?).getD Str.empty)=some .free:=by decide +kernel):aM o c N s p:=⟨k,a,l,f,g⟩
end L2
namespace Sm
open PySem L2
def top (i:Nat):Stmt:=PySem.Challenge.pw_satchelmeet_k98_whole_missed_and_needed.main.body.getD i (.Pass ⟨0,0,0,0⟩)
noncomputable abbrev K0:Stmt:=top 0
noncomputable abbrev Ef:Stmt:=top 49
noncomputable abbrev ET:Stmt:=top 50
noncomputable abbrev F1:Stmt:=top 51
noncomputable abbrev Ee:Stmt:=top 52
noncomputable abbrev EU:Stmt:=top 53
noncomputable abbrev wx:Stmt:=top 54
noncomputable abbrev EV:Stmt:=top 55
noncomputable abbrev ER:Stmt:=top 56
noncomputable abbrev DO:Stmt:=top 57
noncomputable abbrev FV:Stmt:=top 7
noncomputable abbrev EN:Stmt:=top 8
noncomputable abbrev GL:Stmt:=top 9
noncomputable abbrev FW:Stmt:=top 10
noncomputable abbrev GK:Stmt:=top 11
noncomputable abbrev DK:Stmt:=top 18
noncomputable abbrev Ec:Stmt:=top 19
noncomputable abbrev wn:Stmt:=top 20
noncomputable abbrev DC:Stmt:=top 21
noncomputable abbrev DJ:Stmt:=top 17
noncomputable abbrev wu:Stmt:=top 22
noncomputable abbrev EO:Stmt:=top 23
noncomputable abbrev Fp:Stmt:=top 24
noncomputable abbrev Kc:Stmt:=top 25
noncomputable abbrev FT:Stmt:=top 26
noncomputable abbrev Eb:Stmt:=top 27
noncomputable abbrev DB:Stmt:=top 31
noncomputable abbrev Fo:Stmt:=top 29
noncomputable abbrev FU:Stmt:=top 30
noncomputable abbrev wo:Stmt:=inClass (top 33) 0
noncomputable abbrev Ei:Stmt:=inClass (top 33) 1
noncomputable abbrev DP:Stmt:=inClass (top 33) 3
noncomputable abbrev CP:Stmt:=inClass (top 33) 5
noncomputable abbrev wY:Stmt:=inClass (top 33) 6
noncomputable abbrev DQ:Stmt:=inClass (top 33) 2
noncomputable abbrev FR:Stmt:=inClass (top 33) 4
noncomputable abbrev EQ:Stmt:=top 35
noncomputable abbrev Dl:Stmt:=top 39
noncomputable abbrev CO:Stmt:=top 37
noncomputable abbrev FY:Stmt:=top 38
noncomputable abbrev FX:Stmt:=top 46
noncomputable abbrev ww:Stmt:=top 45
noncomputable abbrev FZ:Stmt:=top 47
noncomputable abbrev Dt:Stmt:=top 44
noncomputable abbrev HK:Stmt:=top 43
noncomputable abbrev GM:Stmt:=top 42
noncomputable abbrev IU:Stmt:=top 41
noncomputable abbrev Ed:Stmt:=top 58
noncomputable abbrev we:Stmt:=top 59
noncomputable abbrev wZ:Stmt:=top 60
noncomputable abbrev Eg:Stmt:=top 61
noncomputable abbrev IN:Stmt:=top 62
noncomputable def cg:Pos:=⟨39,49,39,77⟩
set_option genInjectivity false
set_option genSizeOf false
structure Ad where
 DM:Addr
 Fu:FuncData
 Ba:Addr
 Cd:FuncData
 Bv:Addr
 Cz:FuncData
 BY:Addr
 C7:FuncData
 A9:Addr
 Cc:FuncData
 Bw:Addr
 CC:FuncData
 AF:Addr
 A5:FuncData
 Bx:Addr
 CD:FuncData
 Bu:Addr
 Cy:FuncData
 AR:Addr
 BJ:FuncData
 BT:Addr
 C2:FuncData
 Bq:Addr
 Ct:FuncData
 CI:Addr
 Dx:FuncData
 BU:Addr
 C3:FuncData
 CG:Addr
 Dw:FuncData
 Bt:Addr
 Cw:FuncData
 A7:Addr
 Ca:FuncData
 Ah:Addr
 Au:FuncData
 AL:Addr
 Bj:FuncData
 Bp:Addr
 Bn:FuncData
 Aj:Addr
 AA:FuncData
 Br:Addr
 Cu:FuncData
 CK:Addr
 Dz:FuncData
 Fk:Addr
 G1:FuncData
 BQ:Addr
 CW:FuncData
 BS:Addr
 CZ:FuncData
 AK:Addr
 Bi:FuncData
 CF:Addr
 Dv:FuncData
 BR:Addr
 CY:FuncData
 Ai:Addr
 AM:FuncData
 Bc:Addr
 Cf:FuncData
 AT:Addr
 BK:FuncData
 Ax:Addr
 AZ:FuncData
 Am:Addr
 AC:FuncData
 AU:Addr
 BL:FuncData
 AV:Addr
 BM:FuncData
 Bs:Addr
 Cv:FuncData
 AD:Addr
 A4:FuncData
 Aw:Addr
 AY:FuncData
 BW:Addr
 C5:FuncData
 BV:Addr
 C4:FuncData
 AQ:Addr
 BI:FuncData
 BX:Addr
 C6:FuncData
 A6:Addr
 B9:FuncData
 Dk:Addr
 D4:FuncData
 CJ:Addr
 Dy:FuncData
 Fl:Addr
 G2:FuncData
 A8:Addr
 Cb:FuncData
 Aq:Addr
 AH:FuncData
 Al:Addr
 AB:FuncData
 Bb:Addr
 Ce:FuncData
 GE:Addr
 IS:FuncData
 tC:Addr
 tP:Addr
 AJ:Addr
 Bo:Addr
 Aa:Addr
structure Tx (K:PySem.W.Frag) (mg:Str->Option Value) (a:Ad) (uZ:Tok) (oR:Tok) (uX:Tok) (lV:Tok) (uY:Tok):Prop where
 Fv:bI K "_wall" "_wall" K0 a.DM a.Fu
 LQ:Binds K a.Fu ["k"] []
 LO:mg "_wall" = some (.ref a.DM)
 LP:zG K (.ref a.DM)=true
 BG:bI K "_law_purse" "_law_purse" Ef a.Ba a.Cd
 En:Binds K a.Cd ["_law_script", "_law_k"] []
 Ek:mg "_law_purse" = some (.ref a.Ba)
 El:zG K (.ref a.Ba)=true
 B5:bI K "_law_take" "_law_take" ET a.Bv a.Cz
 Af:Binds K a.Cz ["_law_purse_here", "_law_many"] []
 Ac:mg "_law_take" = some (.ref a.Bv)
 Ae:zG K (.ref a.Bv)=true
 Cs:bI K "_law_far" "_law_far" F1 a.BY a.C7
 KA:Binds K a.C7 ["_law_purse_here"] []
 Km:mg "_law_far" = some (.ref a.BY)
 Kt:zG K (.ref a.BY)=true
 BF:bI K "_law_rooms" "_law_rooms" Ee a.A9 a.Cc
 Jl:Binds K a.Cc ["_law_purse_here", "_law_walkers"] []
 Jd:mg "_law_rooms" = some (.ref a.A9)
 Jh:zG K (.ref a.A9)=true
 B6:bI K "_law_step" "_law_step" EU a.Bw a.CC
 JT:Binds K a.CC ["_law_purse_here"] []
 JK:mg "_law_step" = some (.ref a.Bw)
 JP:zG K (.ref a.Bw)=true
 AO:bI K "_law_meetings" "_law_meetings" wx a.AF a.A5
 Hq:Binds K a.A5 ["_law_purse_here", "_law_walkers", "_law_most"] []
 Hn:mg "_law_meetings" = some (.ref a.AF)
 Ho:zG K (.ref a.AF)=true
 B7:bI K "_law_book" "_law_book" EV a.Bx a.CD
 JU:Binds K a.CD ["_law_purse_here", "_law_most_walkers", "_law_most_meetings"] []
 JL:mg "_law_book" = some (.ref a.Bx)
 JQ:zG K (.ref a.Bx)=true
 B4:bI K "_law_time" "_law_time" ER a.Bu a.Cy
 E9:Binds K a.Cy ["_law_purse_here", "_law_book_here", "_law_later"] []
 E4:mg "_law_time" = some (.ref a.Bu)
 E7:zG K (.ref a.Bu)=true
 Bf:bI K "_law_letter" "_law_letter" DO a.AR a.BJ
 Iy:Binds K a.BJ ["_law_purse_here", "_law_book_here"] []
 Ir:mg "_law_letter" = some (.ref a.AR)
 Iw:zG K (.ref a.AR)=true
 Cn:bI K "is_whole" "is_whole" FV a.BT a.C2
 Kx:Binds K a.C2 ["thing"] []
 Kj:mg "is_whole" = some (.ref a.BT)
 Kq:zG K (.ref a.BT)=true
 B0:bI K "is_within" "is_within" EN a.Bq a.Ct
 Bm:Binds K a.Ct ["thing", "least", "most"] []
 Bk:mg "is_within" = some (.ref a.Bq)
 Bl:zG K (.ref a.Bq)=true
 Da:bI K "is_time" "is_time" GL a.CI a.Dx
 IR:Binds K a.Dx ["thing"] []
 IO:mg "is_time" = some (.ref a.CI)
 IQ:zG K (.ref a.CI)=true
 Co:bI K "is_below" "is_below" FW a.BU a.C3
 Ky:Binds K a.C3 ["number", "bound"] []
 Kk:mg "is_below" = some (.ref a.BU)
 Kr:zG K (.ref a.BU)=true
 C9:bI K "is_upto" "is_upto" GK a.CG a.Dw
 La:Binds K a.Dw ["number", "bound"] []
 K5:mg "is_upto" = some (.ref a.CG)
 K7:zG K (.ref a.CG)=true
 B3:bI K "are_rooms" "are_rooms" DK a.Bt a.Cw
 JS:Binds K a.Cw ["thing"] []
 JJ:mg "are_rooms" = some (.ref a.Bt)
 JO:zG K (.ref a.Bt)=true
 BD:bI K "is_meeting" "is_meeting" Ec a.A7 a.Ca
 Jk:Binds K a.Ca ["walkers", "thing"] []
 Jc:mg "is_meeting" = some (.ref a.A7)
 Jg:zG K (.ref a.A7)=true
 Ap:bI K "meets_twice_at_once" "meets_twice_at_once" wn a.Ah a.Au
 EG:Binds K a.Au ["meetings"] []
 EE:mg "meets_twice_at_once" = some (.ref a.Ah)
 EF:zG K (.ref a.Ah)=true
 A3:bI K "lesser_first" "lesser_first" DC a.AL a.Bj
 HW:Binds K a.Bj ["meeting"] []
 HR:mg "lesser_first" = some (.ref a.AL)
 HU:zG K (.ref a.AL)=true
 BZ:bI K "made_book" "made_book" DJ a.Bp a.Bn
 Hi:Binds K a.Bn ["rooms", "meetings"] []
 He:mg "made_book" = some (.ref a.Bp)
 Hg:zG K (.ref a.Bp)=true
 Ar:bI K "is_meeting_number" "is_meeting_number" wu a.Aj a.AA
 FA:Binds K a.AA ["book", "thing"] []
 Fw:mg "is_meeting_number" = some (.ref a.Aj)
 Fy:zG K (.ref a.Aj)=true
 B1:bI K "is_walker" "is_walker" EO a.Br a.Cu
 Hj:Binds K a.Cu ["book", "thing"] []
 Hf:mg "is_walker" = some (.ref a.Br)
 Hh:zG K (.ref a.Br)=true
 Dc:bI K "by_time" "by_time" Fp a.CK a.Dz
 Ft:Binds K a.Dz ["book", "time"] []
 Fq:mg "by_time" = some (.ref a.CK)
 Fs:zG K (.ref a.CK)=true
 Gf:bI K "ways" "ways" Kc a.Fk a.G1
 Lq:Binds K a.G1 ["book"] []
 Ll:mg "ways" = some (.ref a.Fk)
 Lo:zG K (.ref a.Fk)=true
 Ck:bI K "other_at" "other_at" FT a.BQ a.CW
 Ku:Binds K a.CW ["book", "number", "walker"] []
 Kg:mg "other_at" = some (.ref a.BQ)
 Kn:zG K (.ref a.BQ)=true
 Cm:bI K "lone_row" "lone_row" Eb a.BS a.CZ
 Kw:Binds K a.CZ ["book", "walker", "number"] []
 Ki:mg "lone_row" = some (.ref a.BS)
 Kp:zG K (.ref a.BS)=true
 A2:bI K "need_meeting" "need_meeting" DB a.AK a.Bi
 E8:Binds K a.Bi ["book", "meeting"] []
 EZ:mg "need_meeting" = some (.ref a.AK)
 E6:zG K (.ref a.AK)=true
 C8:bI K "without" "without" Fo a.CF a.Dv
 GU:Binds K a.Dv ["book", "meeting"] []
 GR:mg "without" = some (.ref a.CF)
 GT:zG K (.ref a.CF)=true
 Cl:bI K "moved_to" "moved_to" FU a.BR a.CY
 Kv:Binds K a.CY ["book", "meeting", "when"] []
 Kh:mg "moved_to" = some (.ref a.BR)
 Ko:zG K (.ref a.BR)=true
 At:bI K "__init__" "Stream.__init__" wo a.Ai a.AM
 GC:Binds K a.AM ["self", "many"] []
 K3:Meth K a.Aa "__init__" a.Ai
 K2:zG K (.ref a.Ai)=true
 Bd:bI K "tie" "Stream.tie" Ei a.Bc a.Cf
 GB:Binds K a.Cf ["self", "here", "there", "most"] []
 GF:Meth K a.Aa "tie" a.Bc
 LC:zG K (.ref a.Bc)=true
 AW:bI K "sent" "Stream.sent" DP a.AT a.BK
 Iz:Binds K a.BK ["self", "tie"] []
 IG:Meth K a.Aa "sent" a.AT
 Lw:zG K (.ref a.AT)=true
 Ay:bI K "came_to" "Stream.came_to" CP a.Ax a.AZ
 D3:Binds K a.AZ ["self", "goal"] []
 D5:Meth K a.Aa "came_to" a.Ax
 K9:zG K (.ref a.Ax)=true
 Ao:bI K "sent_along" "Stream.sent_along" wY a.Am a.AC
 FC:Binds K a.AC ["self", "came", "goal"] []
 FG:Meth K a.Aa "sent_along" a.Am
 Kb:zG K (.ref a.Am)=true
 AX:bI K "send" "Stream.send" DQ a.AU a.BL
 IA:Binds K a.BL ["self", "source", "goal"] []
 IH:Meth K a.Aa "send" a.AU
 Lx:zG K (.ref a.AU)=true
 Bg:bI K "near" "Stream.near" FR a.AV a.BM
 Lz:Binds K a.BM ["self"] []
 LA:Meth K a.Aa "near" a.AV
 Ly:zG K (.ref a.AV)=true
 B2:bI K "is_letter" "is_letter" EQ a.Bs a.Cv
 JR:Binds K a.Cv ["book", "thing"] []
 JI:mg "is_letter" = some (.ref a.Bs)
 JN:zG K (.ref a.Bs)=true
 AN:bI K "first_givings" "first_givings" Dl a.AD a.A4
 ED:Binds K a.A4 ["book", "sender", "since"] []
 EB:mg "first_givings" = some (.ref a.AD)
 EC:zG K (.ref a.AD)=true
 AI:bI K "earliest_times" "earliest_times" CO a.Aw a.AY
 D2:Binds K a.AY ["book", "sender", "since"] []
 DZ:mg "earliest_times" = some (.ref a.Aw)
 D1:zG K (.ref a.Aw)=true
 Cq:bI K "earliest" "earliest" FY a.BW a.C5
 CU:Binds K a.C5 ["book", "letter"] []
 CQ:mg "earliest" = some (.ref a.BW)
 CS:zG K (.ref a.BW)=true
 Cp:bI K "giver_of" "giver_of" FX a.BV a.C4
 Kz:Binds K a.C4 ["meeting", "sent"] []
 Kl:mg "giver_of" = some (.ref a.BV)
 Ks:zG K (.ref a.BV)=true
 Be:bI K "givers_sent" "givers_sent" ww a.AQ a.BI
 Ix:Binds K a.BI ["book", "letter"] []
 Iq:mg "givers_sent" = some (.ref a.AQ)
 Iv:zG K (.ref a.AQ)=true
 Cr:bI K "chain_by" "chain_by" FZ a.BX a.C6
 HZ:Binds K a.C6 ["book", "letter", "givers"] []
 HS:mg "chain_by" = some (.ref a.BX)
 HV:zG K (.ref a.BX)=true
 BC:bI K "two_chains" "two_chains" Dt a.A6 a.B9
 Jj:Binds K a.B9 ["book", "letter"] []
 Jb:mg "two_chains" = some (.ref a.A6)
 Jf:zG K (.ref a.A6)=true
 DG:bI K "stands" "stands" HK a.Dk a.D4
 Lr:Binds K a.D4 ["book", "letter"] []
 Lm:mg "stands" = some (.ref a.Dk)
 Lp:zG K (.ref a.Dk)=true
 Db:bI K "is_lost" "is_lost" GM a.CJ a.Dy
 Lb:Binds K a.Dy ["book", "rest", "letter"] []
 K6:mg "is_lost" = some (.ref a.CJ)
 K8:zG K (.ref a.CJ)=true
 Gg:bI K "lost" "lost" IU a.Fl a.G2
 LI:Binds K a.G2 ["book", "letters", "meeting"] []
 LG:mg "lost" = some (.ref a.Fl)
 LH:zG K (.ref a.Fl)=true
 BE:bI K "_law_whole" "_law_whole" Ed a.A8 a.Cb
 GA:Binds K a.Cb ["_law_thing"] []
 Gy:mg "_law_whole" = some (.ref a.A8)
 Gz:zG K (.ref a.A8)=true
 Av:bI K "_law_with_chains" "_law_with_chains" we a.Aq a.AH
 BA:Binds K a.AH ["_law_book_here", "_law_letters"] []
 By:mg "_law_with_chains" = some (.ref a.Aq)
 Bz:zG K (.ref a.Aq)=true
 As:bI K "_law_stands_right" "_law_stands_right" wZ a.Al a.AB
 FB:Binds K a.AB ["_law_book_here", "_law_letters", "_law_lost_by"] []
 Fx:mg "_law_stands_right" = some (.ref a.Al)
 Fz:zG K (.ref a.Al)=true
 BH:bI K "_law_moved" "_law_moved" Eg a.Bb a.Ce
 Jm:Binds K a.Ce ["_law_book_here", "_law_at", "_law_when"] []
 Je:mg "_law_moved" = some (.ref a.Bb)
 Ji:zG K (.ref a.Bb)=true
 Hl:bI K "law" "law" IN a.GE a.IS
 LS:Binds K a.IS ["_law_script"] []
 LR:mg "law" = some (.ref a.GE)
 abH:zG K (.ref a.GE)=true
 Yl:mg "all" = none
 QY:mg "bool" = none
 dw:mg "enumerate" = none
 T5:mg "int" = none
 bL:mg "isinstance" = none
 cC:mg "len" = none
 ji:mg "list" = none
 uT:mg "max" = none
 qJ:mg "min" = none
 cN:mg "range" = none
 Yk:mg "set" = none
 uS:mg "sorted" = none
 gq:mg "tuple" = none
 Zr:PySem.W.codeHdIn K a.tC a.tP=true
 Zs:a.Bn.code=.ref a.tC
 E5:mg "NoBook" = some (.ref a.AJ)
 JM:mg "NoMeeting" = some (.ref a.Bo)
 Ln:mg "Stream" = some (.ref a.Aa)
 Gh:Mq K a.AJ
 Jz:Mq K a.Bo
 Ag:Q8 K a.Aa
 Lu:L2.Mk K a.Aa a.Ai
 cu:dU K a.Aa "source"
 c8:dU K a.Aa "arcs"
 cL:dU K a.Aa "ends"
 bR:dU K a.Aa "spare"
 Yc:PySem.W.exmOne K (.ref a.AJ) (.ref a.AJ)=some true
 lG:mg "LAST_TIME" = some (.int 1000000000 uZ)
 oK:mg "MOST_WALKERS" = some (.int 12 oR)
 uP:mg "MOST_ROOM" = some (.int 99 uX)
 lT:mg "MOST_MEETINGS" = some (.int 60 lV)
 uQ:mg "MOST_MANY" = some (.int 99 uY)
section
variable {P:Program}{w:World}{K:PySem.W.Frag}{mg:Str->Option Value}{base:Heap}{a:Ad}{au:Tok}{aj:Tok}{ak:Tok}{ah:Tok}{aq:Tok}
theorem LM (T:Tx K mg a au aj ak ah aq)(B:br mg base):aV P w K mg base cR 1 a.DM a.Fu ["k"] (MD):=⟨λ_ _ _ _ h=>h.elim,λ_ _ _ _ _ _ _ _ _ _ _ _ _ h=>h.elim⟩
theorem FO:aA ["_law_script", "_law_k", "_law_cell", "_law_left"] ["_law_script", "_law_k"] (av Ef):=L2.bQ
theorem Im (T:Tx K mg a au aj ak ah aq)(B:br mg base):aV P w K mg base cR 1 a.Ba a.Cd ["_law_script", "_law_k"] (RI K):=by
 refine T.BG.ok FO (λvs H Q E h=>?_) (λbZ A outer s H vs Q E hr h=>?_)
 ·obtain ⟨a,ns,k,rfl,_⟩:=h;rfl
 ·have nd:=FO.nd;have hu:=hr.units;obtain ⟨sa,ns,k,rfl,hS,hk,q⟩:=h;refine ⟨_,(@xo _ _ _ (@xu _ _ _ _ _ _ (xq (i:=2) nd rfl (by first|exact .inl rfl|exact .inr rfl) xg) (@xu _ _ _ _ _ _ (@wG _ _ _ _ _ _ _ _ (@wA _ _ _ _ _ _ _ _ tO (pv 1) (xw (xx rfl) (by rfl) T.cC PySem.boot_len (@xa _ _ _ (@xf _ _ _ _ _ (pv 0) xp rfl))) (aK _)) (@xo _ _ _ (@wB _ _ _ (xq (i:=2) nd rfl (by first|exact .inl rfl|exact .inr rfl) (@wE _ _ _ _ _ _ _ (wD rfl) (pv 0) (pv 1) (λ_ _=>rfl))))) wC) (@xu _ _ _ _ _ _ (xq (i:=3) nd rfl (by first|exact .inl rfl|exact .inr rfl) xg) (@xu _ _ _ _ _ _ (@wG _ _ _ _ _ _ _ _ (@wA _ _ _ _ _ _ _ _ tO (pv 2) xg (aK _)) (@xo _ _ _ (@wB _ _ _ (xq (i:=3) nd rfl (by first|exact .inl rfl|exact .inr rfl) (@xy _ _ _ _ _ _ _ _ g8 (@Tg _ _ _ _ _ _ O1 xg) (pv 2))))) wC) (@xu _ _ _ _ _ _ (@wG _ _ _ _ _ _ _ _ (@wA _ _ _ _ _ _ _ _ W0 (pv 2) (@xy _ _ _ _ _ _ _ _ kB xg xg) (aK _)) (@xo _ _ _ (@wB _ _ _ (xq (i:=3) nd rfl (by first|exact .inl rfl|exact .inr rfl) (pv 2)))) wC) (@wB _ _ _ (@xv _ _ _ _ (@wO _ _ _ _ (@xa _ _ _ (@xf _ _ _ _ _ (pv 3) (@xf _ _ _ _ _ (@xy _ _ _ _ _ _ _ _ fV (@xy _ _ _ _ _ _ _ _ wL (@xy _ _ _ _ _ _ _ _ wL (@xy _ _ _ _ _ _ _ _ wW (pv 2) xg) (@xy _ _ _ _ _ _ _ _ wW (pv 1) xg)) xg) xg) (@xf _ _ _ _ _ xg xp rfl) rfl) rfl))))))))))),?_⟩;have c18:Q9 10 18:=⟨by decide,by decide,by decide⟩;have s3:3<=sizeLine:=by rw [sizeLine_eq];decide
  have fin:∀ (x y:Int) p,H p=none->Q (.ref p) (upd H p (.lst [.int x,.int y,.int 0])):=λx y p hp=>q p _ hp ⟨x,y,0,xb⟩ (xi hp);have c69:∀ x:Int,OM x 69:=λx=>.inr ⟨by decide,by decide⟩;have aaP:∀ x:Int,OM x 40503:=λx=>.inr ⟨by decide,by decide⟩;refine (zr rfl (zr rfl ⟨sa,zr rfl ⟨.inl hS,aO rfl rfl (zr rfl (LW (fun σ H1=>∃ c:Int,σ=[some (.ref sa),some (.int k),some (.int c),none]/\H=H1) ?_ (λc k0=>?_) (λc=>⟨0,rfl,rfl⟩)))⟩⟩))
  ·rintro σ H1 ⟨c,rfl,rfl⟩;refine (zr rfl (aO rfl rfl (zr rfl (LW (fun σ H1=>∃ d:Int,σ=[some (.ref sa),some (.int k),some (.int c),some (.int d)]/\H=H1) ?_ (λz k0=>?_) (λz=>⟨0,rfl,rfl⟩)))))
   ·rintro σ H1 ⟨d,rfl,rfl⟩;refine (zr rfl (aO rfl rfl ⟨c18,aO rfl rfl (zr rfl (LW (fun σ H1=>∃ d:Int,σ=[some (.ref sa),some (.int k),some (.int c),some (.int d)]/\H=H1) ?_ (λz k0=>(zr rfl (k0 _ _ ⟨c,rfl,rfl⟩))) (λz=>⟨d,rfl,rfl⟩)))⟩));rintro σ H1 ⟨d,rfl,rfl⟩;exact (zr rfl (zr rfl (aO rfl rfl ⟨c69 _,zr rfl (aO rfl rfl ⟨aaP _,aO rfl rfl (aO rfl rfl (aO rfl rfl ⟨(by show (0:Int) < 2147483647;decide),s3,fin _ _⟩))⟩)⟩)))
   ·exact (zr rfl (zr rfl (aO rfl rfl (k0 _ _ (zr rfl rfl)))))
  ·have rM:k < ns.length:=by
    have:=of_decide_eq_true c;rw [zA] at this;omega
   exact (zr rfl (zr rfl ⟨sa,_,aO rfl rfl ⟨hS,wI (v:=V.int ns[k]) (by simp [rM]),k0 _ _ (zr rfl rfl)⟩⟩))
theorem Gq:aA ["_law_purse_here", "_law_many", "_law_digit", "_law_mixed"] ["_law_purse_here", "_law_many"] (av ET):=L2.bQ
theorem wV (T:Tx K mg a au aj ak ah aq)(B:br mg base):aV P w K mg base cR 1 a.Bv a.Cz ["_law_purse_here", "_law_many"] (Uq):=by
 refine T.B5.ok Gq (λvs H Q E h=>?_) (λbZ A outer s H vs Q E hr h=>?_)
 ·obtain ⟨p,n,rfl,_⟩:=h;rfl
 ·have nd:=Gq.nd;have hu:=hr.units;obtain ⟨p,n,rfl,n0,n1,⟨x,y,z,hp⟩,q⟩:=h;refine ⟨_,(@xo _ _ _ (@xu _ _ _ _ _ _ (@wG _ _ _ _ _ _ _ _ (@wA _ _ _ _ _ _ _ _ nI (@wE _ _ _ _ _ _ _ (wD rfl) (pv 0) xg (λ_ _=>rfl)) xg (aK _)) (@xo _ _ _ (@xu _ _ _ _ _ _ (xq (i:=2) nd rfl (by first|exact .inl rfl|exact .inr rfl) (@xy _ _ _ _ _ _ _ _ fV (@wE _ _ _ _ _ _ _ (wD rfl) (pv 0) xg (λ_ _=>rfl)) (pv 1))) (@xu _ _ _ _ _ _ (wa (@xy _ _ _ _ _ _ _ _ qA (@wE _ _ _ _ _ _ _ (wD rfl) (pv 0) xg (λ_ _=>rfl)) (pv 1)) (vO (pv 0) xg set_list)) (@wB _ _ _ (@xv _ _ _ _ (pv 2)))))) wC) (@xu _ _ _ _ _ _ (qX (pv 0) xg (oi rfl) xg rJ set_list) (@xu _ _ _ _ _ _ (xq (i:=3) nd rfl (by first|exact .inl rfl|exact .inr rfl) (@xy _ _ _ _ _ _ _ _ fV (@xy _ _ _ _ _ _ _ _ wW (@xy _ _ _ _ _ _ _ _ wL (@wE _ _ _ _ _ _ _ (wD rfl) (pv 0) xg (λ_ _=>rfl)) (@xy _ _ _ _ _ _ _ _ wW (@wE _ _ _ _ _ _ _ (wD rfl) (pv 0) xg (λ_ _=>rfl)) xg)) xg) xg)) (@xu _ _ _ _ _ _ (xq (i:=3) nd rfl (by first|exact .inl rfl|exact .inr rfl) (@xy _ _ _ _ _ _ _ _ fV (@xy _ _ _ _ _ _ _ _ wL (@xy _ _ _ _ _ _ _ _ wL (@xy _ _ _ _ _ _ _ _ wW (pv 3) (pv 3)) (@xy _ _ _ _ _ _ _ _ wW (@wE _ _ _ _ _ _ _ (wD rfl) (pv 0) xg (λ_ _=>rfl)) xg)) (@wE _ _ _ _ _ _ _ (wD rfl) (pv 0) xg (λ_ _=>rfl))) xg)) (@wB _ _ _ (@xv _ _ _ _ (@xy _ _ _ _ _ _ _ _ fV (@xy _ _ _ _ _ _ _ _ qA (@xy _ _ _ _ _ _ _ _ fV (@xy _ _ _ _ _ _ _ _ wW (pv 3) xg) xg) xg) (pv 1))))))))),?_⟩;have hS:aL K H p _:=aL.of hp;have cm:∀ x c:Int,-(2 ^ 64) < c->c < 2 ^ 64->OM x c:=λx c h h'=>.inr ⟨h,h'⟩;refine (zr rfl ⟨p,_,aO rfl rfl ⟨hS,rfl,aO rfl rfl (zr rfl (jN (λh1=>?_) λh1=>?_))⟩⟩)
  ·refine (zr rfl ⟨p,_,aO rfl rfl ⟨hS,rfl,zr rfl (aO rfl rfl ⟨n0,?_⟩)⟩⟩);refine (zr rfl ⟨p,_,aO rfl rfl ⟨hS,rfl,zr rfl (aO rfl rfl ⟨⟨n0,n1⟩,zr rfl ⟨p,_,_,0,rfl,rfl,hp,rfl,?_⟩⟩)⟩⟩);exact (zr rfl (q _ _ (yq _ (by omega)) (yW _ n0) ⟨bY.set,_,_,_,xb⟩))
  ·refine (zr rfl ⟨p,_,aO rfl rfl ⟨hS,rfl,aO rfl rfl ⟨p,_,_,2,rfl,rfl,hp,rfl,?_⟩⟩⟩);have h2:(upd H p (HO.lst ([V.int x,V.int y,V.int z].set 2 (.int (z + 1))))) p=some (.lst [V.int x,V.int y,V.int (z + 1)]):=xb;have b2:bY p H (upd H p (HO.lst ([V.int x,V.int y,V.int z].set 2 (.int (z + 1))))):=bY.set;generalize upd H p (HO.lst ([V.int x,V.int y,V.int z].set 2 (.int (z + 1))))=H2 at h2 b2 ⊢;have YY:aL K H2 p _:=aL.of h2;have big:(2147483647:Int) < 2 ^ 64:=by decide
   have low:-(2:Int) ^ 64 < 0:=by decide
   have pos:(0:Int) < 2147483647:=by decide
   refine (zr rfl ⟨p,_,aO rfl rfl ⟨YY,rfl,zr rfl ⟨p,_,aO rfl rfl ⟨YY,rfl,aO rfl rfl ⟨cm _ _ (by decide) (by decide),aO rfl rfl (aO rfl rfl ⟨cm _ _ (by decide) (by decide),aO rfl rfl ⟨(by show (0:Int) < 2147483647;decide),?_⟩⟩)⟩⟩⟩⟩⟩);have m0:=yq ((y + (z + 1) * 362437) * 48271) (show (2147483647:Int)≠0 by decide);have m1:=yW ((y + (z + 1) * 362437) * 48271) pos;refine (zr rfl (zr rfl (aO rfl rfl ⟨.inl ⟨Int.lt_of_lt_of_le low m0,Int.lt_trans m1 big⟩,zr rfl ⟨p,_,aO rfl rfl ⟨YY,rfl,aO rfl rfl ⟨cm _ _ (by decide) (by decide),aO rfl rfl (zr rfl ⟨p,_,aO rfl rfl ⟨YY,rfl,aO rfl rfl (aO rfl rfl ⟨(by show (0:Int) < 2147483629;decide),?_⟩)⟩⟩)⟩⟩⟩⟩)));refine (zr rfl (aO rfl rfl ⟨cm _ _ (by decide) (by decide),aO rfl rfl ⟨(by show (0:Int) < 2147483563;decide),aO rfl rfl ⟨⟨by decide,by decide⟩,zr rfl (aO rfl rfl ⟨n0,?_⟩)⟩⟩⟩));exact q _ _ (yq _ (by omega)) (yW _ n0) ⟨b2,_,_,_,h2⟩
theorem Hd:aA ["_law_purse_here", "_law_high"] ["_law_purse_here"] (av F1):=L2.bQ
theorem JH (T:Tx K mg a au aj ak ah aq)(B:br mg base):aV P w K mg base cR 2 a.BY a.C7 ["_law_purse_here"] (WN):=by
 have Ab:=@wV P w _ _ base _ _ _ _ _ _ T B;refine T.Cs.ok Hd (λvs H Q E h=>?_) (λbZ A outer s H vs Q E hr h=>?_)
 ·obtain ⟨p,rfl,_⟩:=h;rfl
 ·have nd:=Hd.nd;have hu:=hr.units;obtain ⟨p,rfl,hp,q⟩:=h;refine ⟨_,(@xo _ _ _ (@xu _ _ _ _ _ _ (xq (i:=1) nd rfl (by first|exact .inl rfl|exact .inr rfl) (xm Ab (hr.mono (by decide)) rfl T.Ac T.Ae T.Af .nil ay (@xa _ _ _ (@xf _ _ _ _ _ (pv 0) (@xf _ _ _ _ _ xg xp rfl) rfl)))) (@wB _ _ _ (@xv _ _ _ _ (@xy _ _ _ _ _ _ _ _ fV (@xy _ _ _ _ _ _ _ _ wL (@xy _ _ _ _ _ _ _ _ wW (pv 1) xg) (xm Ab (hr.mono (by decide)) rfl T.Ac T.Ae T.Af .nil ay (@xa _ _ _ (@xf _ _ _ _ _ (pv 0) (@xf _ _ _ _ _ xg xp rfl) rfl)))) (@xy _ _ _ _ _ _ _ _ wL (@xy _ _ _ _ _ _ _ _ kB xg xg) xg)))))),?_⟩;refine (zr rfl ⟨p,zr rfl ⟨by decide,by decide,hp,λd H1 d0 d1 g1=>(zr rfl (aO rfl rfl ⟨.inr ⟨by decide,by decide⟩,zr rfl ⟨p,zr rfl ⟨by decide,by decide,g1.2,λe H2 e0 e1 g2=>(aO rfl rfl (aO rfl rfl ⟨⟨by decide,by decide,by decide⟩,aO rfl rfl (aO rfl rfl ⟨(by show (0:Int) < 10 ^ Int.toNat 9 + 1;decide),?_⟩)⟩))⟩⟩⟩))⟩⟩);have e9:(10:Int) ^ Int.toNat 9 + 1=1000000001:=by decide
  rw [e9];exact q _ _ (yq _ (by decide)) (Int.lt_add_one_iff.mp (yW _ (by decide))) (g1.trans g2)
theorem FN:aA ["_law_purse_here", "_law_walkers", "_law_rooms_here", "_law_walker", "_law_room"] ["_law_purse_here", "_law_walkers"] (av Ee):=L2.bQ
theorem Il (T:Tx K mg a au aj ak ah aq)(B:br mg base):aV P w K mg base cR 2 a.A9 a.Cc ["_law_purse_here", "_law_walkers"] (RH):=by
 have Ab:=@wV P w _ _ base _ _ _ _ _ _ T B;refine T.BF.ok FN (λvs H Q E h=>?_) (λbZ A outer s H vs Q E hr h=>?_)
 ·obtain ⟨p,n,rfl,_⟩:=h;rfl
 ·have nd:=FN.nd;have hu:=hr.units;obtain ⟨p,n,rfl,hn,hp,q⟩:=h;refine ⟨_,(@xo _ _ _ (@xu _ _ _ _ _ _ (xq (i:=2) nd rfl (by first|exact .inl rfl|exact .inr rfl) (@wO _ _ _ _ wb)) (@xu _ _ _ _ _ _ (wt PassesOwn.never rfl (wg rfl T.cN (@xa _ _ _ (@xf _ _ _ _ _ (pv 1) xp rfl))) (xk (i:=3) nd rfl (by first|exact .inl rfl|exact .inr rfl)) (@xo _ _ _ (@xu _ _ _ _ _ _ (xq (i:=4) nd rfl (by first|exact .inl rfl|exact .inr rfl) (@xy _ _ _ _ _ _ _ _ qA (xm Ab (hr.mono (by decide)) rfl T.Ac T.Ae T.Af .nil ay (@xa _ _ _ (@xf _ _ _ _ _ (pv 0) (@xf _ _ _ _ _ xg xp rfl) rfl))) xg)) (@xu _ _ _ _ _ _ (@wG _ _ _ _ _ _ _ _ (@wA _ _ _ _ _ _ _ _ eO (pv 4) xg (aK _)) (@xo _ _ _ (@wB _ _ _ (xq (i:=4) nd rfl (by first|exact .inl rfl|exact .inr rfl) (xm Ab (hr.mono (by decide)) rfl T.Ac T.Ae T.Af .nil ay (@xa _ _ _ (@xf _ _ _ _ _ (pv 0) (@xf _ _ _ _ _ xg xp rfl) rfl)))))) wC) (@wB _ _ _ (wS (gB zj ze zf wU (pv 2) (@xa _ _ _ (@xf _ _ _ _ _ (pv 4) xp rfl))))))))) (@wB _ _ _ (@xv _ _ _ _ (wz (dc) (by rfl) T.gq yF (@xa _ _ _ (@xf _ _ _ _ _ (pv 2) xp rfl)))))))),?_⟩;have line:1001<=sizeLine:=by rw [sizeLine_eq];decide
  refine ⟨zb _,λl hl=>?_⟩;have npl:=hp.ne hl;refine (zr rfl (zr rfl ⟨by omega,by omega,?_⟩));refine cW (lo:=0) (n:=n) (λi σ H2=>∃ v3 v4 rs,σ=[some (.ref p),some (.int n),some (.ref l),v3,v4]/\H2 l=some (.lst (List.map V.int rs))/\rs.length=i/\(∀ r∈rs,(0:Int)<=r/\r<=99)/\Go p H H2)
   ⟨_,_,[],rfl,xb,rfl,(λ_ z=>nomatch z),(Go.refl hp).new hl⟩ ?_ ?_
  ·rintro i σ H2 hi ⟨v3,v4,rs,rfl,h2,hlen,hr,go⟩;refine (zr rfl ⟨p,zr rfl ⟨by decide,by decide,go.2,λd H3 d0 d1 g3=>(aO rfl rfl ⟨⟨by decide,by decide⟩,?_⟩)⟩⟩);refine (zr rfl ⟨rfl,zr rfl (LW (fun σ H4=>∃ x:Int,σ=[some (.ref p),some (.int n),some (.ref l),some (.int (0 + (i:Int))),some (.int x)]/\0<=x/\x<=99/\Go p H2 H4) ?_ (λc k0=>(zr rfl ⟨p,zr rfl ⟨by decide,by decide,g3.2,λe H4 e0 e1 g4=>k0 _ _ ⟨e,rfl,e0,by omega,g3.trans g4⟩⟩⟩)) (λc=>(zr rfl ⟨by omega,by omega,g3⟩)))⟩);rintro σ H4 ⟨x,rfl,x0,x1,g4⟩;have h4:=g4.1 l _ npl h2;refine (zr rfl ⟨.inl ⟨rfl,_,aL.of h4⟩,zr rfl ⟨l,aO rfl rfl ⟨h4,by rw [zA];omega,_,_,rs++[x],rfl,by rw [xb,zI];rfl,by simp [hlen],λr Vi=>?_,?_⟩⟩⟩)
   ·rcases zT.mp Vi with h | h
    ·exact hr r h
    ·cases zF.mp h;exact ⟨x0,x1⟩
   ·have g2:=go.trans g4;refine ⟨λb u nb e=>?_,?_⟩
    ·rw [xj (xh e hl)];exact g2.1 b u nb e
    ·obtain ⟨a,b,c,e⟩:=g2.2;exact ⟨a,b,c,by rw [xj npl.symm];exact e⟩
  ·rintro σ H2 ⟨v3,v4,rs,rfl,h2,hlen,hr,go⟩;exact (zr rfl ⟨l,zr rfl (.inl ⟨aL.of h2,λt ht=>q t rs _ (go.new ht) xb hlen hr⟩)⟩)
theorem Gr:aA ["_law_purse_here", "_law_way"] ["_law_purse_here"] (av EU):=L2.bQ
theorem IZ (T:Tx K mg a au aj ak ah aq)(B:br mg base):aV P w K mg base cR 2 a.Bw a.CC ["_law_purse_here"] (Ur):=by
 have Ab:=@wV P w _ _ base _ _ _ _ _ _ T B;refine T.B6.ok Gr (λvs H Q E h=>?_) (λbZ A outer s H vs Q E hr h=>?_)
 ·obtain ⟨p,rfl,_⟩:=h;rfl
 ·have nd:=Gr.nd;have hu:=hr.units;obtain ⟨p,rfl,hp,q⟩:=h;refine ⟨_,(@xo _ _ _ (@xu _ _ _ _ _ _ (xq (i:=1) nd rfl (by first|exact .inl rfl|exact .inr rfl) (xm Ab (hr.mono (by decide)) rfl T.Ac T.Ae T.Af .nil ay (@xa _ _ _ (@xf _ _ _ _ _ (pv 0) (@xf _ _ _ _ _ xg xp rfl) rfl)))) (@xu _ _ _ _ _ _ (@wG _ _ _ _ _ _ _ _ (@wA _ _ _ _ _ _ _ _ tO (pv 1) xg (aK _)) (@xo _ _ _ (@wB _ _ _ (@xv _ _ _ _ (@wE _ _ _ _ _ _ _ (wD rfl) (@wO _ _ _ _ (@xa _ _ _ (@xf _ _ _ _ _ xg (@xf _ _ _ _ _ xg (@xf _ _ _ _ _ xg xp rfl) rfl) rfl))) (pv 1) (λ_ _=>rfl))))) wC) (@xu _ _ _ _ _ _ (@wG _ _ _ _ _ _ _ _ (@wA _ _ _ _ _ _ _ _ eO (pv 1) xg (aK _)) (@xo _ _ _ (@wB _ _ _ (@xv _ _ _ _ (@xy _ _ _ _ _ _ _ _ wL xg (xm Ab (hr.mono (by decide)) rfl T.Ac T.Ae T.Af .nil ay (@xa _ _ _ (@xf _ _ _ _ _ (pv 0) (@xf _ _ _ _ _ xg xp rfl) rfl))))))) wC) (@wB _ _ _ (@xv _ _ _ _ (@xy _ _ _ _ _ _ _ _ wL xg (xm Ab (hr.mono (by decide)) rfl T.Ac T.Ae T.Af .nil ay (@xa _ _ _ (@xf _ _ _ _ _ (pv 0) (@xf _ _ _ _ _ (@xy _ _ _ _ _ _ _ _ wW xg (@xy _ _ _ _ _ _ _ _ kB xg xg)) xp rfl) rfl)))))))))),?_⟩;have s3:3<=sizeLine:=by rw [sizeLine_eq];decide
  refine (zr rfl ⟨p,zr rfl ⟨by decide,by decide,hp,λd H1 d0 d1 g1=>(zr rfl (aO rfl rfl (zr rfl (jN (λh1=>?_) λh1=>?_))))⟩⟩)
  ·obtain ⟨v,hv,v0,v1⟩:∃ v:Int,mD [V.int 0,V.int 1,V.int 1] d=some (V.int v)/\0<=v/\v<=1:=by
    obtain rfl | rfl | rfl:d=0\/d=1\/d=2:=by omega
    ·exact ⟨0,rfl,by decide,by decide⟩
    ·exact ⟨1,rfl,by decide,by decide⟩
    ·exact ⟨1,rfl,by decide,by decide⟩
   exact ⟨s3,λl hl=>(zr rfl (lC xb hv (q _ _ v0 (by omega) (g1.new hl))))⟩
  ·refine (zr rfl ⟨rfl,zr rfl (jN (λh2=>?_) λh2=>?_)⟩)
   ·exact (zr rfl ⟨p,zr rfl ⟨by decide,by decide,g1.2,λe H2 e0 e1 g2=>(aO rfl rfl (q _ _ (by omega) (by omega) (g1.trans g2)))⟩⟩)
   ·have e16:(16:Int) * 10 ^ Int.toNat 6=16000000:=by decide
    refine (zr rfl (aO rfl rfl ⟨⟨by decide,by decide,by decide⟩,aO rfl rfl ⟨.inl ⟨by decide,by decide⟩,p,zr rfl ⟨by decide,by decide,g1.2,λe H2 e0 e1 g2=>(aO rfl rfl (q _ _ (by omega) (by rw [e16] at e1;omega) (g1.trans g2)))⟩⟩⟩))
theorem DX:aA ["_law_purse_here", "_law_walkers", "_law_most", "_law_found", "_law_when", "_law_busy", "_law_k", "_law_one", "_law_other", "_law_gap", "_law_passed", "_law_late"] ["_law_purse_here", "_law_walkers", "_law_most"] (av wx):=L2.bQ
theorem GP (T:Tx K mg a au aj ak ah aq)(B:br mg base):aV P w K mg base cR 3 a.AF a.A5 ["_law_purse_here", "_law_walkers", "_law_most"] (vA):=by
 have Ab:=@wV P w _ _ base _ _ _ _ _ _ T B;have J9:=@IZ P w _ _ base _ _ _ _ _ _ T B;refine T.AO.ok DX (λvs H Q E h=>?_) (λbZ A outer s H vs Q E hr h=>?_)
 ·obtain ⟨p,w,n,rfl,_⟩:=h;rfl
 ·have nd:=DX.nd;have hu:=hr.units;obtain ⟨p,w,n,rfl,hn,w9,hw,hp,q⟩:=h;refine ⟨_,(@xo _ _ _ (@xu _ _ _ _ _ _ (xq (i:=3) nd rfl (by first|exact .inl rfl|exact .inr rfl) (@wO _ _ _ _ wb)) (@xu _ _ _ _ _ _ (xq (i:=4) nd rfl (by first|exact .inl rfl|exact .inr rfl) (@xy _ _ _ _ _ _ _ _ wL xg (@xy _ _ _ _ _ _ _ _ wW (@xy _ _ _ _ _ _ _ _ qA (xm Ab (hr.mono (by decide)) rfl T.Ac T.Ae T.Af .nil ay (@xa _ _ _ (@xf _ _ _ _ _ (pv 0) (@xf _ _ _ _ _ xg xp rfl) rfl))) xg) (xm Ab (hr.mono (by decide)) rfl T.Ac T.Ae T.Af .nil ay (@xa _ _ _ (@xf _ _ _ _ _ (pv 0) (@xf _ _ _ _ _ (@xy _ _ _ _ _ _ _ _ kB xg xg) xp rfl) rfl)))))) (@xu _ _ _ _ _ _ (xq (i:=5) nd rfl (by first|exact .inl rfl|exact .inr rfl) (@wO _ _ _ _ wb)) (@xu _ _ _ _ _ _ (wt PassesOwn.never rfl (wg rfl T.cN (@xa _ _ _ (@xf _ _ _ _ _ (pv 2) xp rfl))) (xk (i:=6) nd rfl (by first|exact .inl rfl|exact .inr rfl)) (@xo _ _ _ (@xu _ _ _ _ _ _ (xq (i:=7) nd rfl (by first|exact .inl rfl|exact .inr rfl) (xm Ab (hr.mono (by decide)) rfl T.Ac T.Ae T.Af .nil ay (@xa _ _ _ (@xf _ _ _ _ _ (pv 0) (@xf _ _ _ _ _ (pv 1) xp rfl) rfl)))) (@xu _ _ _ _ _ _ (xq (i:=8) nd rfl (by first|exact .inl rfl|exact .inr rfl) (@xy _ _ _ _ _ _ _ _ fV (@xy _ _ _ _ _ _ _ _ wL (@xy _ _ _ _ _ _ _ _ wL (pv 7) xg) (xm Ab (hr.mono (by decide)) rfl T.Ac T.Ae T.Af .nil ay (@xa _ _ _ (@xf _ _ _ _ _ (pv 0) (@xf _ _ _ _ _ (@xy _ _ _ _ _ _ _ _ g8 (pv 1) xg) xp rfl) rfl)))) (pv 1))) (@xu _ _ _ _ _ _ (xq (i:=9) nd rfl (by first|exact .inl rfl|exact .inr rfl) (xm J9 (hr.mono (by decide)) rfl T.JK T.JP T.JT .nil ay (@xa _ _ _ (@xf _ _ _ _ _ (pv 0) xp rfl)))) (@xu _ _ _ _ _ _ (@wG _ _ _ _ _ _ _ _ (@PW.pt _ _ _ (@gU _ _ _ _ _ _ _ (@wA _ _ _ _ _ _ _ _ (fW rfl) (pv 7) (pv 5) rfl) (@dO _ _ _ _ (@wA _ _ _ _ _ _ _ _ (fW rfl) (pv 8) (pv 5) rfl)))) (@xo _ _ _ (@wB _ _ _ (xq (i:=9) nd rfl (by first|exact .inl rfl|exact .inr rfl) (xw (fN rfl) (by rfl) T.uT yo (@xa _ _ _ (@xf _ _ _ _ _ xg (@xf _ _ _ _ _ (pv 9) xp rfl) rfl)))))) wC) (@xu _ _ _ _ _ _ (@wG _ _ _ _ _ _ _ _ (@wA _ _ _ _ _ _ _ _ nI (pv 9) xg (aK _)) (@xo _ _ _ (@wB _ _ _ (xq (i:=5) nd rfl (by first|exact .inl rfl|exact .inr rfl) (@wO _ _ _ _ wb)))) wC) (@xu _ _ _ _ _ _ (xq (i:=4) nd rfl (by first|exact .inl rfl|exact .inr rfl) (@xy _ _ _ _ _ _ _ _ wL (pv 4) (pv 9))) (@xu _ _ _ _ _ _ (xq (i:=5) nd rfl (by first|exact .inl rfl|exact .inr rfl) (@xy _ _ _ _ _ _ _ _ P4 (pv 5) (@wO _ _ _ _ (@xa _ _ _ (@xf _ _ _ _ _ (pv 7) (@xf _ _ _ _ _ (pv 8) xp rfl) rfl))))) (@xu _ _ _ _ _ _ (xq (i:=10) nd rfl (by first|exact .inl rfl|exact .inr rfl) (@xy _ _ _ _ _ _ _ _ wL xg (@xy _ _ _ _ _ _ _ _ qA (xm Ab (hr.mono (by decide)) rfl T.Ac T.Ae T.Af .nil ay (@xa _ _ _ (@xf _ _ _ _ _ (pv 0) (@xf _ _ _ _ _ xg xp rfl) rfl))) xg))) (@xu _ _ _ _ _ _ (@wG _ _ _ _ _ _ _ _ (@wA _ _ _ _ _ _ _ _ eO (xm Ab (hr.mono (by decide)) rfl T.Ac T.Ae T.Af .nil ay (@xa _ _ _ (@xf _ _ _ _ _ (pv 0) (@xf _ _ _ _ _ xg xp rfl) rfl))) xg (aK _)) (@xo _ _ _ (@wB _ _ _ (xq (i:=10) nd rfl (by first|exact .inl rfl|exact .inr rfl) (@xy _ _ _ _ _ _ _ _ wL xg (xm Ab (hr.mono (by decide)) rfl T.Ac T.Ae T.Af .nil ay (@xa _ _ _ (@xf _ _ _ _ _ (pv 0) (@xf _ _ _ _ _ xg xp rfl) rfl))))))) wC) (@wB _ _ _ (wS (gB zj ze zf wU (pv 3) (@xa _ _ _ (@xf _ _ _ _ _ (@wT _ _ _ _ _ (@xa _ _ _ (@xf _ _ _ _ _ (pv 4) (@xf _ _ _ _ _ (xw (fM rfl) (by rfl) T.qJ yU (@xa _ _ _ (@xf _ _ _ _ _ (pv 7) (@xf _ _ _ _ _ (pv 8) xp rfl) rfl))) (@xf _ _ _ _ _ (xw (fN rfl) (by rfl) T.uT yo (@xa _ _ _ (@xf _ _ _ _ _ (pv 7) (@xf _ _ _ _ _ (pv 8) xp rfl) rfl))) (@xf _ _ _ _ _ (pv 10) xp rfl) rfl) rfl) rfl))) xp rfl)))))))))))))))) (@xu _ _ _ _ _ _ (xq (i:=11) nd rfl (by first|exact .inl rfl|exact .inr rfl) xg) (@xu _ _ _ _ _ _ (@wG _ _ _ _ _ _ _ _ (@PW.pt _ _ _ (@kr _ _ _ _ _ _ _ (@wA _ _ _ _ _ _ _ _ eO (xm Ab (hr.mono (by decide)) rfl T.Ac T.Ae T.Af .nil ay (@xa _ _ _ (@xf _ _ _ _ _ (pv 0) (@xf _ _ _ _ _ xg xp rfl) rfl))) xg (aK _)) (@iH _ _ _ _ (@wA _ _ _ _ _ _ _ _ (P0 hu) (pv 3) (@wO _ _ _ _ wb) (aK _))))) (@xo _ _ _ (@wB _ _ _ (xq (i:=11) nd rfl (by first|exact .inl rfl|exact .inr rfl) (@xy _ _ _ _ _ _ _ _ g8 (@xy _ _ _ _ _ _ _ _ kB xg xg) (pv 4))))) wC) (@wB _ _ _ (@xv _ _ _ _ (wz (dc) (by rfl) T.gq yF (@xa _ _ _ (@xf _ _ _ _ _ (wr (own:=["_law_then", "_law_low", "_law_high", "_law_room"]) (caps:=[11]) rfl (show aM ["_law_then", "_law_low", "_law_high", "_law_room"] [11] ["_law_purse_here", "_law_walkers", "_law_most", "_law_found", "_law_when", "_law_busy", "_law_k", "_law_one", "_law_other", "_law_gap", "_law_passed", "_law_late"] (av wx) _ from L2.iw) (@wR _ _ _ _ _ rfl (xw (Mj) (by rfl) T.uS PyProof.Rows.boot_sorted (@xa _ _ _ (@xf _ _ _ _ _ (pv 3) xp rfl)))) (λ_ _ _ _=>(wJ (n:=4) rfl rfl (xl (xk (i:=0) (show List.Nodup (["_law_then", "_law_low", "_law_high", "_law_room", "_law_late"]:List Str) from by decide +kernel) rfl (by first|exact .inl rfl|exact .inr rfl)) (xl (xk (i:=1) (show List.Nodup (["_law_then", "_law_low", "_law_high", "_law_room", "_law_late"]:List Str) from by decide +kernel) rfl (by first|exact .inl rfl|exact .inr rfl)) (xl (xk (i:=2) (show List.Nodup (["_law_then", "_law_low", "_law_high", "_law_room", "_law_late"]:List Str) from by decide +kernel) rfl (by first|exact .inl rfl|exact .inr rfl)) (xl (xk (i:=3) (show List.Nodup (["_law_then", "_law_low", "_law_high", "_law_room", "_law_late"]:List Str) from by decide +kernel) rfl (by first|exact .inl rfl|exact .inr rfl)) wF)))))) (λ_ _ _ _=>cX) (λ_ _ _ _=>(@wT _ _ _ _ _ (@xa _ _ _ (@xf _ _ _ _ _ (pv 1) (@xf _ _ _ _ _ (pv 2) (@xf _ _ _ _ _ (@xy _ _ _ _ _ _ _ _ wL (pv 0) (pv 4)) (@xf _ _ _ _ _ (pv 3) xp rfl) rfl) rfl) rfl))))) xp rfl)))))))))))),?_⟩;have line:1001<=sizeLine:=by rw [sizeLine_eq];decide
  have c7:Q9 10 7:=⟨by decide,by decide,by decide⟩;have e7:(10:Int) ^ Int.toNat 7=10000000:=by decide
  have e64:(2:Int) ^ 64 > 1000:=by decide
  have SR:(2:Int) ^ 200 > 1000:=by decide
  refine ⟨zb _,λlf Wc=>?_⟩;have Rf:=hp.ne Wc;have hp1:bU (upd H lf (.lst [])) p:=hp.new Wc;refine (zr rfl ⟨p,zr rfl ⟨by decide,by decide,hp1,λd H1 d0 d1 g1=>(aO rfl rfl ⟨⟨by decide,by decide⟩,zr rfl (aO rfl rfl ⟨c7,?_⟩)⟩)⟩⟩);refine ⟨p,zr rfl ⟨by decide,by decide,g1.2,λd2 H2 d20 d21 g2=>(aO rfl rfl ⟨.inl ⟨by omega,by omega⟩,aO rfl rfl ?_⟩)⟩⟩;rw [e7] at d21;refine ⟨zb _,λlb Vo=>?_⟩;have fr2:=g1.trans g2;have Vn:H2 lf=some (.lst []):=fr2.1 lf _ Rf xb;have go0:Go p H H2:=((Go.refl hp).new Wc).trans fr2;refine (zr rfl (zr rfl ⟨by omega,by omega,?_⟩));have wh0:1<=1 + d / 2 * d2/\1 + d / 2 * d2<=10000000:=by
   obtain h | h:d / 2=0\/d / 2=1:=by omega
   ·rw [h];omega
   ·rw [h];omega
  refine cW (lo:=0) (n:=n) (Zh p lf w n H)
   ⟨_,_,_,_,_,_,lb,[],[],rfl,by rw [xj (xh Vn Vo)];exact Vn,xb,(xh Vn Vo).symm,go0.2.ne Vo,(λ_ z=>nomatch z),⟨(λ_ z=>nomatch z),.nil,(λ_ z=>nomatch z)⟩,rfl,by simp,wh0.1,(by have:=wh0.2;simpa using this),go0.new Vo⟩ ?_ ?_
  ·rintro i σ H3 hi ⟨v6,v7,v8,v9,v10,wh,lb,bs,fs,rfl,Vy,h3b,nbf,Xc,Y5,F,Qi,U0,Yu,Zo,go⟩;have w2:2<=w:=by omega
   refine (zr rfl (zr rfl ⟨p,w,rfl,by omega,by omega,go.2,λone H4 o0 o1 g4=>?_⟩));refine (zr rfl (aO rfl rfl (zr rfl (zr rfl (aO rfl rfl ⟨p,zr rfl ⟨by omega,by omega,g4.2,λx H5 x0 x1 g5=>(aO rfl rfl (zr rfl (aO rfl rfl ⟨by omega,?_⟩)))⟩⟩)))));have ot:=UJ o0 o1 x0 x1;refine (zr rfl ⟨p,rfl,g5.2,λgap H6 ae7 ae6 g6=>?_⟩);have X7:=g4.trans (g5.trans g6);have Rm:=X7.1 lb _ Xc h3b;have hf6:=X7.1 lf _ Rf Vy;refine (zr rfl (zr rfl ⟨lb,zr rfl ⟨.inl (aL.of Rm),rfl,qu bs,zr rfl (Z4 (fun σ H7=>∃ gp:Int,σ=[some (.ref p),some (.int w),some (.int n),some (.ref lf),some (.int wh),some (.ref lb),some (.int (0 + (i:Int))),some (.int one),some (.int ((one + 1 + x) % w)),some (.int gp),v10,none]/\H6=H7/\0<=gp/\gp<=16000000/\(gp=0->one ∉ bs/\(one + 1 + x) % w ∉ bs)) ?_ (λc1 k0=>?_) (λc1 k0=>(zr rfl (zr rfl ⟨lb,zr rfl ⟨.inl (aL.of Rm),rfl,qu bs,zr rfl (ug (λc2=>?_) (λc2=>?_))⟩⟩))))⟩⟩))
   rotate_left
   ·exact (zr rfl (iD rfl (k0 _ _ (zr rfl ⟨rfl,by split <;> omega,by split <;> omega,λz=>by split at z <;> omega⟩))))
   ·exact (zr rfl (iD rfl (k0 _ _ (zr rfl ⟨rfl,by split <;> omega,by split <;> omega,λz=>by split at z <;> omega⟩))))
   ·have c1':one ∉ bs:=of_decide_eq_false (cQ.symm.trans c1);have c2':(one + 1 + x) % w ∉ bs:=of_decide_eq_false (cQ.symm.trans c2);exact k0 _ _ ⟨gap,rfl,rfl,by omega,by omega,λ_=>⟨c1',c2'⟩⟩
   rintro σ H7 ⟨gp,rfl,rfl,gp0,gp1,hg⟩;refine (zr rfl (aO rfl rfl (zr rfl (LW (fun σ H7=>∃ ly bz,σ=[some (.ref p),some (.int w),some (.int n),some (.ref lf),some (.int wh),some (.ref ly),some (.int (0 + (i:Int))),some (.int one),some (.int ((one + 1 + x) % w)),some (.int gp),v10,none]/\Go p H3 H7/\H7 ly=some (.lst (List.map V.int bz))/\ly≠p/\bz.length<=2 * i/\∀ z∈bs,gp=0->z∈bz) ?_ (λc3 k0=>⟨zb _,λln YR=>k0 _ _ ⟨ln,[],rfl,X7.new YR,xb,X7.2.ne YR,zb _,λ_ _ z=>by have:=of_decide_eq_true c3;omega⟩⟩) (λc3=>⟨lb,bs,rfl,X7,Rm,Xc,U0,λ_ z _=>z⟩)))));rintro σ H7 ⟨ly,bz,rfl,gy,hyb,nyp,adU,hb0⟩;have ae0:=gy.1 lf _ Rf Vy;refine (zr rfl (zr rfl (aO rfl rfl ?_)));refine (zr rfl (zr rfl (zr rfl ⟨by show 2<=sizeLine;omega,λl2 M8=>?_⟩)));have Y7:=gy.new (o:=HO.lst [V.int one,V.int ((one + 1 + x) % w)]) M8;have Xv:=xi (o:=HO.lst [V.int one,V.int ((one + 1 + x) % w)]) M8 _ _ hyb;have h22:(upd H7 l2 (HO.lst [V.int one,V.int ((one + 1 + x) % w)])) l2=some (.lst [V.int one,V.int ((one + 1 + x) % w)]):=xb;generalize upd H7 l2 (HO.lst [V.int one,V.int ((one + 1 + x) % w)])=H8 at Y7 Xv h22 ⊢;refine ⟨ly,l2,aO rfl rfl ⟨Xv,h22,(by simp only [zA,zX,yI];omega),λl3 hl3=>?_⟩⟩;have n3p:l3≠p:=Y7.2.ne hl3;have n3f:l3≠lf:=(xh (Y7.1 lf _ Rf Vy) hl3).symm;have g3':=Y7.new (o:=HO.lst (List.map V.int bz++[V.int one,V.int ((one + 1 + x) % w)])) hl3;have X4:(upd H8 l3 (HO.lst (List.map V.int bz++[V.int one,V.int ((one + 1 + x) % w)]))) l3=some (.lst (List.map V.int (bz++[one,(one + 1 + x) % w]))):=by rw [xb,zI];rfl
   generalize upd H8 l3 (HO.lst (List.map V.int bz++[V.int one,V.int ((one + 1 + x) % w)]))=H9 at g3' X4 ⊢;refine (zr rfl ⟨p,zr rfl ⟨by decide,by decide,g3'.2,λd4 Wt d40 d41 Me=>(aO rfl rfl ⟨⟨by decide,by decide⟩,aO rfl rfl ?_⟩)⟩⟩);refine (zr rfl ⟨p,zr rfl ⟨by decide,by decide,Me.2,λd5 H11 d50 d51 g11=>⟨rfl,zr rfl (LW (fun σ H12=>∃ mm:Int,σ=[some (.ref p),some (.int w),some (.int n),some (.ref lf),some (.int (wh + gp)),some (.ref l3),some (.int (0 + (i:Int))),some (.int one),some (.int ((one + 1 + x) % w)),some (.int gp),some (.int mm),none]/\1<=mm/\mm<=99/\Go p H9 H12) ?_ (λc5 k0=>(zr rfl ⟨p,zr rfl ⟨by decide,by decide,g11.2,λd6 H12 d60 d61 Y8=>(aO rfl rfl (k0 _ _ (zr rfl ⟨by omega,by omega,(Me.trans g11).trans Y8⟩)))⟩⟩)) (λc5=>(zr rfl ⟨by omega,by omega,Me.trans g11⟩)))⟩⟩⟩);rintro σ H12 ⟨mm,rfl,mm0,mm1,Y8⟩;have VA:=g3'.trans Y8;have hz:=VA.1 lf _ Rf Vy;refine (zr rfl ⟨.inl ⟨rfl,_,aL.of hz⟩,zr rfl (zr rfl (zr rfl (iD rfl (zr rfl (zr rfl (iD rfl (zr rfl ⟨by show 4<=sizeLine;omega,λt ht=>⟨lf,aO rfl rfl ⟨(by rw [xj (xh hz ht)];exact hz),(by rw [zA];omega),?_⟩⟩⟩)))))))⟩);exact Zh.step Rf Wc F Qi (bs':=bz++[one,(one + 1 + x) % w]) (by simp only [zE,zX,yI];omega) Yu Zo hz (Y8.1 l3 _ n3p X4) n3f n3p (λa ha=>VA.aS go.2 _ _ (Y5 a ha)) (go.trans VA) ht gp0 gp1 o0 o1 ot.1 ot.2.1 ot.2.2 mm0 mm1 hg (λz hz1 hz2=>zd _ (hb0 z hz1 hz2)) (by simp) (by simp)
  ·rintro σ H3 ⟨v6,v7,v8,v9,v10,wh,lb,bs,fs,rfl,Vy,h3b,nbf,Xc,Y5,F,Qi,U0,Yu,Zo,go⟩;have c9:Q9 10 9:=⟨by decide,by decide,by decide⟩;have e9:(10:Int) ^ Int.toNat 9=1000000000:=by decide
   refine (zr rfl ⟨p,zr rfl ⟨by decide,by decide,go.2,λd8 H4 _ _ g4=>⟨rfl,zr rfl (Z6 (fun σ H5=>∃ jL:Int,(∃ v6 v7 v8 v9 v10,σ=[some (.ref p),some (.int w),some (.int n),some (.ref lf),some (.int wh),some (.ref lb),v6,v7,v8,v9,v10,some (.int jL)])/\Go p H3 H5/\0<=jL/\(fs≠[]->wh + jL<=1000000000)) ?_ (λc k0=>?_) (λc=>⟨0,⟨_,_,_,_,_,rfl⟩,g4,zp _,λ_=>by omega⟩))⟩⟩⟩)
   rotate_left
   ·have h4f:=g4.1 lf _ Rf Vy;refine (zr rfl ⟨zb _,λl4 XI=>⟨lf,l4,zr rfl ⟨rfl,aL.of (by rw [xj (xh h4f XI)];exact h4f),aL.of xb,zr rfl (ug (λc2=>?_) (λc2=>?_))⟩⟩⟩)
    ·exact (aO rfl rfl ⟨c9,zr rfl (aO rfl rfl (k0 _ _ ⟨_,⟨_,_,_,_,_,rfl⟩,g4.new XI,by rw [e9];omega,λ_=>by rw [e9];omega⟩))⟩)
    ·exact k0 _ _ ⟨0,⟨_,_,_,_,_,rfl⟩,g4.new XI,zp _,λ_=>by omega⟩
   rintro σ Hz ⟨jL,⟨v6',v7',v8',v9',acP,rfl⟩,gz,L0,L1⟩;have hz:=gz.1 lf _ Rf Vy;refine (zr rfl ⟨lf,fs.map (λa=>(a.1,a.2.row)),rfl,?_,(by rw [zA];omega),(λa ha=>?_),λD qs hD pq sq=>?_⟩)
   ·rw [z4];exact aL.of hz
   ·obtain ⟨b,hb,rfl⟩:=zP.mp ha;exact ⟨gz.aS go.2 _ _ (Y5 b hb),by intro z;cases z⟩
   obtain ⟨rs,ZH,srs,rfl⟩:=NS pq sq;refine ⟨D,rfl,⟨_,aL.of xb⟩,?_⟩;have lrs:rs.length=n:=by rw [ZH.length_eq,Qi]
   have hDl:(upd Hz D (HO.lst (List.map (λa=>V.ref a.1) (List.map (λa:Addr×M4=>(a.1,a.2.row)) rs)))) D=some (.lst (rs.map λa=>V.ref a.1)):=by rw [xb,z4];rfl
   have rD:=λa (ha:a∈rs)=>(bV.new (o:=HO.lst (List.map (λa=>V.ref a.1) (List.map (λa:Addr×M4=>(a.1,a.2.row)) rs))) hD) _ _ (gz.aS go.2 _ _ (Y5 a (ZH.mem_iff.mp ha)));have gD:=(go.trans gz).new (o:=HO.lst (List.map (λa=>V.ref a.1) (List.map (λa:Addr×M4=>(a.1,a.2.row)) rs))) hD;refine dH (K:=K) (a:=D) (xs:=rs.map λa=>V.ref a.1) (λi τ acc H5=>∃ ps:List (Addr×M4),(∃ t0 t1 t2 t3,τ=[t0,t1,t2,t3,some (.int jL)])/\acc=(ps.map λa=>V.ref a.1)/\(ps.map (·.2))=((rs.take i).map λa=>a.2.jL jL)/\iC H5 ps/\aB (upd Hz D (HO.lst (List.map (λa=>V.ref a.1) (List.map (λa:Addr×M4=>(a.1,a.2.row)) rs)))) H5)
    ?_ (by rw [zA];omega) ?_ ?_ ?_
   ·exact ⟨[],⟨_,_,_,_,rfl⟩,rfl,rfl,(λ_ z=>nomatch z),aB.refl _⟩
   ·rintro i τ acc H6 ⟨ps,⟨t0,t1,t2,t3,rfl⟩,rfl,SO,rws,sm⟩;have:=congrArg List.length SO;rw [zA,zA,zZ] at this;exact ⟨by rw [zA];omega,sm.seq (aL.of hDl)⟩
   ·rintro i x τ acc H5 C hx ⟨ps,⟨t0,t1,t2,t3,rfl⟩,rfl,SO,rws,sm⟩ hC;obtain ⟨r,hr,rfl⟩:=wN hx;have fZ:=sm _ _ (rD r (zB hr));refine (Nu fZ (zr rfl (zr rfl (zr rfl (zr rfl (aO rfl rfl (zr rfl ⟨by show 4<=sizeLine;omega,λt ht=>hC _ _ _ ?_⟩)))))));refine ⟨ps++[(t,r.2.jL jL)],⟨_,_,_,_,rfl⟩,by rw [zI];rfl,by rw [zI,wj hr,zI,SO];rfl,λa ha=>?_,sm.trans (xi ht)⟩;rcases zT.mp ha with h | h
    ·exact xi ht _ _ (rws a h)
    ·cases zF.mp h;exact xb
   ·rintro τ acc H6 ⟨ps,⟨t0,t1,t2,t3,rfl⟩,rfl,SO,rws,sm⟩ lt fk;refine ⟨lt,zr rfl (.inl ⟨aL.of xb,λt ht=>q t ps _ (((gD.same sm).new fk).new ht) xb ((rws.aS (bV.new fk)).aS (bV.new ht)) ?_ ?_⟩)⟩
    ·rw [SO,zA,zn];exact F.good (by omega) L0 L1 ZH srs
    ·have:=congrArg List.length SO;rw [zA,zA,zA,zn] at this;omega
theorem Gs:aA ["_law_purse_here", "_law_most_walkers", "_law_most_meetings", "_law_walkers", "_law_most"] ["_law_purse_here", "_law_most_walkers", "_law_most_meetings"] (av EV):=L2.bQ
theorem Ja (T:Tx K mg a au aj ak ah aq)(B:br mg base):aV P w K mg base cR 4 a.Bx a.CD ["_law_purse_here", "_law_most_walkers", "_law_most_meetings"] (Ux):=by
 have Ab:=@wV P w _ _ base _ _ _ _ _ _ T B;have Jx:=@Il P w _ _ base _ _ _ _ _ _ T B;have Ht:=@GP P w _ _ base _ _ _ _ _ _ T B;refine T.B7.ok Gs (λvs H Q E h=>?_) (λbZ A outer s H vs Q E hr h=>?_)
 ·obtain ⟨p,a,n,rfl,_⟩:=h;rfl
 ·have nd:=Gs.nd;have hu:=hr.units;obtain ⟨p,aw,n,rfl,a1,a2,hn,hp,q⟩:=h;refine ⟨_,(@xo _ _ _ (@xu _ _ _ _ _ _ (xq (i:=3) nd rfl (by first|exact .inl rfl|exact .inr rfl) (@xy _ _ _ _ _ _ _ _ wL xg (xm Ab (hr.mono (by decide)) rfl T.Ac T.Ae T.Af .nil ay (@xa _ _ _ (@xf _ _ _ _ _ (pv 0) (@xf _ _ _ _ _ (pv 1) xp rfl) rfl))))) (@xu _ _ _ _ _ _ (xq (i:=4) nd rfl (by first|exact .inl rfl|exact .inr rfl) (xw (fM rfl) (by rfl) T.qJ yU (@xa _ _ _ (@xf _ _ _ _ _ (pv 2) (@xf _ _ _ _ _ (xm Ab (hr.mono (by decide)) rfl T.Ac T.Ae T.Af .nil ay (@xa _ _ _ (@xf _ _ _ _ _ (pv 0) (@xf _ _ _ _ _ (@xy _ _ _ _ _ _ _ _ wL (pv 2) xg) xp rfl) rfl))) xp rfl) rfl)))) (@xu _ _ _ _ _ _ (@wG _ _ _ _ _ _ _ _ (@wA _ _ _ _ _ _ _ _ eO (pv 3) xg (aK _)) (@xo _ _ _ (@wB _ _ _ (xq (i:=4) nd rfl (by first|exact .inl rfl|exact .inr rfl) xg))) wC) (@wB _ _ _ (@xv _ _ _ _ (@wT _ _ _ _ _ (@xa _ _ _ (@xf _ _ _ _ _ (xm Jx (hr.mono (by decide)) rfl T.Jd T.Jh T.Jl .nil ay (@xa _ _ _ (@xf _ _ _ _ _ (pv 0) (@xf _ _ _ _ _ (pv 3) xp rfl) rfl))) (@xf _ _ _ _ _ (xm Ht (hr.mono (by decide)) rfl T.Hn T.Ho T.Hq .nil ay (@xa _ _ _ (@xf _ _ _ _ _ (pv 0) (@xf _ _ _ _ _ (pv 3) (@xf _ _ _ _ _ (pv 4) xp rfl) rfl) rfl))) xp rfl) rfl))))))))),?_⟩;have line:1001<=sizeLine:=by rw [sizeLine_eq];decide
  have SR:(2:Int) ^ 200 > 1000:=by decide
  refine (zr rfl (zr rfl ⟨p,aw,rfl,by omega,by omega,hp,λd H1 d0 d1 g1=>(aO rfl rfl ?_)⟩));obtain ⟨k,rfl⟩:=zl d0;refine (zr rfl (zr rfl (zr rfl (aO rfl rfl ⟨p,zr rfl ⟨by omega,by omega,g1.2,λe H2 e0 e1 g2=>(iD rfl ?_)⟩⟩))));obtain ⟨m,em,hm⟩:∃ m:Nat,(if e < (n:Int) then e else (n:Int))=m/\m<=n:=by
   refine ⟨(if e < (n:Int) then e else (n:Int)).toNat,?_,?_⟩ <;> split <;> omega
  refine ⟨_,rfl,rfl,_,rfl,LW (fun σ H3=>∃ m:Nat,σ=[some (.ref p),some (.int aw),some (.int n),some (.int (1 + (k:Int))),some (.int m)]/\m<=n/\(m=0\/1<=k)/\Go p H H3) ?_ (λc k0=>k0 _ _ ⟨0,rfl,zb _,.inl rfl,g1.trans g2⟩) (λc=>⟨m,by rw [<-em];rfl,hm,.inr (by
    by_cases hk:k=0
    ·subst hk;exact absurd c (by simp)
    ·omega),g1.trans g2⟩)⟩
  rintro σ H2 ⟨m,rfl,hm,hk,g2⟩;refine (zr rfl (zr rfl ⟨p,1 + k,by simp,by omega,g2.2,λtr af H3 g3 h3 l3 r3=>(zr rfl (zr rfl (zr rfl ⟨p,_,m,rfl,by omega,by omega,by omega,g3.2,λtm ps H4 g4 h4 r4 gd l4=>⟨by show 2<=sizeLine;omega,λb hb=>?_⟩⟩)))⟩));have X5:=g4.aS g3.2 _ _ h3;have tn:=bV.new (o:=HO.tup [V.ref tr,V.ref tm]) hb;refine q b af tr tm ps _ ((g2.trans (g3.trans g4)).new hb) ⟨xb,tn _ _ X5,tn _ _ h4,r4.aS tn⟩ (by omega) (by omega) r3 ?_ (by omega);rw [l3];simpa using gd
theorem Gp:aA ["_law_purse_here", "_law_book_here", "_law_later", "_law_way", "_law_at"] ["_law_purse_here", "_law_book_here", "_law_later"] (av ER):=L2.bQ
theorem Gw (T:Tx K mg a au aj ak ah aq)(B:br mg base):aV P w K mg base cR 3 a.Bu a.Cy ["_law_purse_here", "_law_book_here", "_law_later"] (mV):=by
 have Ab:=@wV P w _ _ base _ _ _ _ _ _ T B;have KW:=@JH P w _ _ base _ _ _ _ _ _ T B;refine T.B4.ok Gp (λvs H Q E h=>?_) (λbZ A outer s H vs Q E hr h=>?_)
 ·obtain ⟨p,b,j,_,_,_,_,rfl,_⟩:=h;rfl
 ·have nd:=Gp.nd;have hu:=hr.units;obtain ⟨p,b,j,af,tr,tm,ps,rfl,hj,hb,gd,hp,q⟩:=h;refine ⟨_,(@xo _ _ _ (@xu _ _ _ _ _ _ (xq (i:=3) nd rfl (by first|exact .inl rfl|exact .inr rfl) (xm Ab (hr.mono (by decide)) rfl T.Ac T.Ae T.Af .nil ay (@xa _ _ _ (@xf _ _ _ _ _ (pv 0) (@xf _ _ _ _ _ xg xp rfl) rfl)))) (@xu _ _ _ _ _ _ (@wG _ _ _ _ _ _ _ _ (@wA _ _ _ _ _ _ _ _ eO (pv 3) xg (aK _)) (@xo _ _ _ (@wB _ _ _ (@xv _ _ _ _ (@wE _ _ _ _ _ _ _ (wD rfl) (@wO _ _ _ _ (@xa _ _ _ (@xf _ _ _ _ _ xg (@xf _ _ _ _ _ (@xy _ _ _ _ _ _ _ _ kB xg xg) xp rfl) rfl))) (pv 2) (λ_ _=>rfl))))) wC) (@xu _ _ _ _ _ _ (@wG _ _ _ _ _ _ _ _ (@wA _ _ _ _ _ _ _ _ eO (pv 3) xg (aK _)) (@xo _ _ _ (@wB _ _ _ (@xv _ _ _ _ (xm KW (hr.mono (by decide)) rfl T.Km T.Kt T.KA .nil ay (@xa _ _ _ (@xf _ _ _ _ _ (pv 0) xp rfl)))))) wC) (@xu _ _ _ _ _ _ (@wG _ _ _ _ _ _ _ _ (@wA _ _ _ _ _ _ _ _ (N1 hu) (@wE _ _ _ _ _ _ _ (wK rfl) (pv 1) xg (λ_ _=>rfl)) (@wT _ _ _ _ _ wb) (aK _)) (@xo _ _ _ (@wB _ _ _ (@xv _ _ _ _ (xm Ab (hr.mono (by decide)) rfl T.Ac T.Ae T.Af .nil ay (@xa _ _ _ (@xf _ _ _ _ _ (pv 0) (@xf _ _ _ _ _ xg xp rfl) rfl)))))) wC) (@xu _ _ _ _ _ _ (xq (i:=4) nd rfl (by first|exact .inl rfl|exact .inr rfl) (xm Ab (hr.mono (by decide)) rfl T.Ac T.Ae T.Af .nil ay (@xa _ _ _ (@xf _ _ _ _ _ (pv 0) (@xf _ _ _ _ _ (xw (xx rfl) (by rfl) T.cC PySem.boot_len (@xa _ _ _ (@xf _ _ _ _ _ (@wE _ _ _ _ _ _ _ (wK rfl) (pv 1) xg (λ_ _=>rfl)) xp rfl))) xp rfl) rfl)))) (@xu _ _ _ _ _ _ (@wG _ _ _ _ _ _ _ _ (@wA _ _ _ _ _ _ _ _ nI (pv 3) xg (aK _)) (@xo _ _ _ (@wB _ _ _ (xq (i:=4) nd rfl (by first|exact .inl rfl|exact .inr rfl) (@wE _ _ _ _ _ _ _ (wD rfl) (@wO _ _ _ _ (@xa _ _ _ (@xf _ _ _ _ _ (@xy _ _ _ _ _ _ _ _ qA (pv 4) xg) (@xf _ _ _ _ _ (@xy _ _ _ _ _ _ _ _ qA (@xy _ _ _ _ _ _ _ _ wL (pv 4) (xw (xx rfl) (by rfl) T.cC PySem.boot_len (@xa _ _ _ (@xf _ _ _ _ _ (@wE _ _ _ _ _ _ _ (wK rfl) (pv 1) xg (λ_ _=>rfl)) xp rfl)))) xg) xp rfl) rfl))) (pv 2) (λ_ _=>rfl))))) wC) (@wB _ _ _ (@xv _ _ _ _ (@xy _ _ _ _ _ _ _ _ g8 (@wE _ _ _ _ _ _ _ (wK rfl) (@wE _ _ _ _ _ _ _ (wK rfl) (@wE _ _ _ _ _ _ _ (wK rfl) (pv 1) xg (λ_ _=>rfl)) (pv 4) (λ_ _=>rfl)) xg (λ_ _=>rfl)) (@wE _ _ _ _ _ _ _ (wD rfl) (@wO _ _ _ _ (@xa _ _ _ (@xf _ _ _ _ _ xg (@xf _ _ _ _ _ xg xp rfl) rfl))) (@xy _ _ _ _ _ _ _ _ vS (@xy _ _ _ _ _ _ _ _ qA (xm Ab (hr.mono (by decide)) rfl T.Ac T.Ae T.Af .nil ay (@xa _ _ _ (@xf _ _ _ _ _ (pv 0) (@xf _ _ _ _ _ xg xp rfl) rfl))) xg) (pv 2)) (λ_ _=>rfl)))))))))))),?_⟩;have line:=eU;have SR:(2:Int) ^ 200 > 10000:=by decide
  have c9:Q9 10 9:=⟨by decide,by decide,by decide⟩;have e9:(10:Int) ^ Int.toNat 9=1000000000:=by decide
  have l60:=gd.len;refine (zr rfl ⟨p,zr rfl ⟨by decide,by decide,hp,λway H1 w0 w1 g1=>?_⟩⟩);refine (zr rfl ⟨rfl,zr rfl (jN (λc=>?_) (λc=>(zr rfl ⟨rfl,zr rfl (jN (λc=>?_) (λc=>?_))⟩)))⟩)
  ·refine (aO rfl rfl ⟨c9,by show 2<=sizeLine;omega,λl hl=>(zr rfl ?_)⟩);rcases hj with rfl | rfl
   ·exact (lC xb rfl (q _ _ (by omega) (by omega) (g1.new hl)))
   ·exact (lC xb rfl (q _ _ (by rw [e9];decide) (by rw [e9];decide) (g1.new hl)))
  ·exact (zr rfl ⟨p,rfl,g1.2,λd H2 d0 d1 g2=>q _ _ d0 d1 (g1.trans g2)⟩)
  have mj:=hb.aS (g1.aS hp);refine (zr rfl (kE mj.book rfl ⟨zb _,λu hu2=>?_⟩));have qm:=mj.aS (bV.new (o:=HO.tup []) hu2);have g2:=g1.new (o:=HO.tup []) hu2;refine ⟨tm,u,zr rfl ⟨rfl,cD.of qm.meets,cD.of xb,zr rfl (ug (λc2=>?_) (λc2=>?_))⟩⟩
  ·exact (zr rfl ⟨p,zr rfl ⟨by decide,by decide,g2.2,λd H3 d0 d1 g3=>q _ _ d0 (by omega) (g2.trans g3)⟩⟩)
  have M3:1<=ps.length:=by
   cases ps with
   | nil=>cases c2
   | cons _ _=>simp
  refine (zr rfl (zr rfl (kE qm.book rfl ⟨tm,zr rfl ⟨.inr (cD.of qm.meets),p,zr rfl ⟨by rw [zA];omega,by rw [zA];omega,g2.2,λd H3 d0 d1 g3=>?_⟩⟩⟩)));rw [zA] at d1;have SG:=qm.aS (g3.aS g2.2);have gg3:=g2.trans g3;refine (zr rfl (aO rfl rfl (zr rfl (jN (λc3=>?_) (λc3=>?_)))))
  ·refine (zr rfl (aO rfl rfl ⟨⟨by decide,by decide⟩,zr rfl (zr rfl (kE SG.book rfl ⟨tm,zr rfl ⟨.inr (cD.of SG.meets),aO rfl rfl (aO rfl rfl ⟨⟨by decide,by decide⟩,by show 2<=sizeLine;omega,λl hl=>(zr rfl ?_)⟩)⟩⟩))⟩));have gx:=gg3.new (o:=HO.lst [V.int (d / 2),V.int ((d + ((ps.map λa=>V.ref a.1).length:Int)) / 2)]) hl;have hx:=SG.aS (bV.new (o:=HO.lst [V.int (d / 2),V.int ((d + ((ps.map λa=>V.ref a.1).length:Int)) / 2)]) hl);obtain ⟨k,ek,hk⟩:∃ k:Nat,mD [V.int (d / 2),V.int ((d + ((ps.map λa=>V.ref a.1).length:Int)) / 2)] j=some (V.int (k:Int))/\k < ps.length:=by
    rcases hj with rfl | rfl
    ·obtain ⟨k,hk⟩:=zl (show 0<=d / 2 by omega);exact ⟨k,by rw [<-hk];rfl,by omega⟩
    ·obtain ⟨k,hk⟩:=zl (show 0<=(d + ((ps.map λa=>V.ref a.1).length:Int)) / 2 by omega);refine ⟨k,by rw [<-hk];rfl,?_⟩;rw [zA] at hk;omega
   refine (lC xb ek ?_);refine (zr rfl (kE hx.book rfl (zr rfl (kE hx.meets (wI (v:=V.ref ps[k].1) (by simp [hk])) (kE (hx.rows _ (zh hk)) rfl ⟨by show 2<=sizeLine;omega,λl9 SD=>?_⟩)))));have g9:=gx.new (o:=HO.lst [V.int 1,V.int 0]) SD;refine (zr rfl ⟨p,zr rfl ⟨by decide,by decide,g9.2,λe H9 e0 e1 Me=>(aO rfl rfl ⟨⟨by decide,by decide⟩,zr rfl (aO rfl rfl ?_)⟩)⟩⟩);have h9:=Me.1 l9 _ (gx.2.ne SD) xb;have tb:=gd.at (zh hk);have bx:(e / 3=0\/e / 3=1):=by omega
   rcases hj with rfl | rfl <;> rcases bx with bx | bx <;> rw [bx]
   ·exact (lC h9 (by decide:mD [V.int 1,V.int 0] (Builtin.bitXor 0 0)=some (V.int 1)) (aO rfl rfl (q _ _ (by omega) (by omega) (g9.trans Me))))
   ·exact (lC h9 (by decide:mD [V.int 1,V.int 0] (Builtin.bitXor 1 0)=some (V.int 0)) (aO rfl rfl (q _ _ (by omega) (by omega) (g9.trans Me))))
   ·exact (lC h9 (by decide:mD [V.int 1,V.int 0] (Builtin.bitXor 0 1)=some (V.int 0)) (aO rfl rfl (q _ _ (by omega) (by omega) (g9.trans Me))))
   ·exact (lC h9 (by decide:mD [V.int 1,V.int 0] (Builtin.bitXor 1 1)=some (V.int 1)) (aO rfl rfl (q _ _ (by omega) (by omega) (g9.trans Me))))
  ·have gx:=gg3;have hx:=SG;obtain ⟨k,rfl⟩:=zl d0;have hk:k < ps.length:=by omega
   refine (zr rfl (kE hx.book rfl (zr rfl (kE hx.meets (wI (v:=V.ref ps[k].1) (by simp [hk])) (kE (hx.rows _ (zh hk)) rfl ⟨by show 2<=sizeLine;omega,λl9 SD=>?_⟩)))));have g9:=gx.new (o:=HO.lst [V.int 1,V.int 0]) SD;refine (zr rfl ⟨p,zr rfl ⟨by decide,by decide,g9.2,λe H9 e0 e1 Me=>(aO rfl rfl ⟨⟨by decide,by decide⟩,zr rfl (aO rfl rfl ?_)⟩)⟩⟩);have h9:=Me.1 l9 _ (gx.2.ne SD) xb;have tb:=gd.at (zh hk);have bx:(e / 3=0\/e / 3=1):=by omega
   rcases hj with rfl | rfl <;> rcases bx with bx | bx <;> rw [bx]
   ·exact (lC h9 (by decide:mD [V.int 1,V.int 0] (Builtin.bitXor 0 0)=some (V.int 1)) (aO rfl rfl (q _ _ (by omega) (by omega) (g9.trans Me))))
   ·exact (lC h9 (by decide:mD [V.int 1,V.int 0] (Builtin.bitXor 1 0)=some (V.int 0)) (aO rfl rfl (q _ _ (by omega) (by omega) (g9.trans Me))))
   ·exact (lC h9 (by decide:mD [V.int 1,V.int 0] (Builtin.bitXor 0 1)=some (V.int 0)) (aO rfl rfl (q _ _ (by omega) (by omega) (g9.trans Me))))
   ·exact (lC h9 (by decide:mD [V.int 1,V.int 0] (Builtin.bitXor 1 1)=some (V.int 1)) (aO rfl rfl (q _ _ (by omega) (by omega) (g9.trans Me))))
theorem EK:aA ["_law_purse_here", "_law_book_here", "_law_walkers", "_law_sender", "_law_wish", "_law_since"] ["_law_purse_here", "_law_book_here"] (av DO):=L2.bQ
theorem HN (T:Tx K mg a au aj ak ah aq)(B:br mg base):aV P w K mg base cR 4 a.AR a.BJ ["_law_purse_here", "_law_book_here"] (Pe):=by
 have Ab:=@wV P w _ _ base _ _ _ _ _ _ T B;have DN:=@Gw P w _ _ base _ _ _ _ _ _ T B;refine T.Bf.ok EK (λvs H Q E h=>?_) (λbZ A outer s H vs Q E hr h=>?_)
 ·obtain ⟨p,b,_,_,_,_,rfl,_⟩:=h;rfl
 ·have nd:=EK.nd;have hu:=hr.units;obtain ⟨p,b,af,tr,tm,ps,rfl,hb,r1,r2,gd,hp,q⟩:=h;refine ⟨_,(@xo _ _ _ (@xu _ _ _ _ _ _ (xq (i:=2) nd rfl (by first|exact .inl rfl|exact .inr rfl) (xw (xx rfl) (by rfl) T.cC PySem.boot_len (@xa _ _ _ (@xf _ _ _ _ _ (@wE _ _ _ _ _ _ _ (wK rfl) (pv 1) xg (λ_ _=>rfl)) xp rfl)))) (@xu _ _ _ _ _ _ (xq (i:=3) nd rfl (by first|exact .inl rfl|exact .inr rfl) (xm Ab (hr.mono (by decide)) rfl T.Ac T.Ae T.Af .nil ay (@xa _ _ _ (@xf _ _ _ _ _ (pv 0) (@xf _ _ _ _ _ (pv 2) xp rfl) rfl)))) (@xu _ _ _ _ _ _ (xq (i:=4) nd rfl (by first|exact .inl rfl|exact .inr rfl) (xm Ab (hr.mono (by decide)) rfl T.Ac T.Ae T.Af .nil ay (@xa _ _ _ (@xf _ _ _ _ _ (pv 0) (@xf _ _ _ _ _ (pv 2) xp rfl) rfl)))) (@xu _ _ _ _ _ _ (@wG _ _ _ _ _ _ _ _ (@PW.pt _ _ _ (@kr _ _ _ _ _ _ _ (@wA _ _ _ _ _ _ _ _ eO (pv 3) (pv 4) (aK _)) (@iH _ _ _ _ (@wA _ _ _ _ _ _ _ _ nI (xm Ab (hr.mono (by decide)) rfl T.Ac T.Ae T.Af .nil ay (@xa _ _ _ (@xf _ _ _ _ _ (pv 0) (@xf _ _ _ _ _ xg xp rfl) rfl))) xg (aK _))))) (@xo _ _ _ (@wB _ _ _ (xq (i:=4) nd rfl (by first|exact .inl rfl|exact .inr rfl) (@xy _ _ _ _ _ _ _ _ fV (@xy _ _ _ _ _ _ _ _ wL (pv 4) xg) (pv 2))))) wC) (@xu _ _ _ _ _ _ (xq (i:=5) nd rfl (by first|exact .inl rfl|exact .inr rfl) (xm DN (hr.mono (by decide)) rfl T.E4 T.E7 T.E9 .nil ay (@xa _ _ _ (@xf _ _ _ _ _ (pv 0) (@xf _ _ _ _ _ (pv 1) (@xf _ _ _ _ _ xg xp rfl) rfl) rfl)))) (@wB _ _ _ (@xv _ _ _ _ (@wT _ _ _ _ _ (@xa _ _ _ (@xf _ _ _ _ _ (pv 3) (@xf _ _ _ _ _ (pv 5) (@xf _ _ _ _ _ (pv 4) (@xf _ _ _ _ _ (xm DN (hr.mono (by decide)) rfl T.E4 T.E7 T.E9 .nil ay (@xa _ _ _ (@xf _ _ _ _ _ (pv 0) (@xf _ _ _ _ _ (pv 1) (@xf _ _ _ _ _ xg xp rfl) rfl) rfl))) xp rfl) rfl) rfl) rfl))))))))))),?_⟩;have line:=eU;have SR:(2:Int) ^ 200 > 10000:=by decide
  have rl:(af.map V.int).length=af.length:=zA _;have fin:∀ s w:Int,0<=s->s < af.length->0<=w->w < af.length->∀ H3,Go p H H3->mV [.ref p,.ref b,.int 0] H3 (λx H4=>mV [.ref p,.ref b,.int 1] H4 (λy H5=>4<=sizeLine/\∀ t,H5 t=none->Q (.ref t) (upd H5 t (.tup [.int s,x,.int w,y]))) E0) E0:=by
   intro s w s0 s1 w0 w1 H3 g3;have SG:=hb.aS (g3.aS hp);refine (QI p b 0 af tr tm ps ⟨rfl,.inl rfl,SG,gd,g3.2,λx H4 x0 x1 g4=>?_⟩);exact (QI p b 1 af tr tm ps ⟨rfl,.inr rfl,SG.aS (g4.aS g3.2),gd,g4.2,λy H5 y0 y1 g5=>⟨by omega,λt ht=>q t s x w y _ ((g3.trans (g4.trans g5)).new ht) xb s0 s1 w0 w1 x0 x1 y0 y1⟩⟩)
  refine (zr rfl (kE hb.book rfl ⟨tr,zr rfl ⟨.inr (cD.of hb.af),?_⟩⟩));refine (zr rfl (zr rfl ⟨p,zr rfl ⟨by omega,by omega,hp,λs H1 s0 s1 g1=>(zr rfl (zr rfl ⟨p,zr rfl ⟨by omega,by omega,g1.2,λw H2 w0 w1 g2=>?_⟩⟩))⟩⟩));refine (zr rfl (zr rfl ⟨rfl,zr rfl (jN (λc=>?_) (λc=>aE rfl ?_))⟩))
  ·refine (zr rfl ⟨p,zr rfl ⟨by decide,by decide,g2.2,λe H3 e0 e1 g3=>(aO rfl rfl (zr rfl (jN (λc2=>?_) (λc2=>?_))))⟩⟩)
   ·refine (zr rfl (aO rfl rfl (zr rfl (aO rfl rfl ⟨by omega,?_⟩))));have:=fin s ((w + 1) % (((af.map V.int).length:Nat):Int)) s0 (by omega) (yq _ (by omega)) (by have:=yW (w + 1) (show (0:Int) < ((af.map V.int).length:Nat) by omega);omega) H3 (g1.trans (g2.trans g3));simp only [uw,om,Mc,vm,Uj,fQ,Mb,mS,Tp,rU,tH,tG,nv,lN,oY,vv,vo,Ra,S7,vM,rI,sU,tC,fL,jx,RA,jw,oX,mT,NF,mQ,iV,kX,tB,vq,vz,Uh,mR,UD,UC,sZ,gR,vn,vt,Ue,iG,kY,iu,L2.start,zo,yf,zX,yI,xR,xT,List.replicate,yh,xI,zq,yG,yC,Option.some.injEq,exists_eq_left',exists_eq_left,exists_and_left,and_assoc,V.int.injEq,V.ty.injEq,V.str.injEq,V.bl.injEq,V.ref.injEq,List.cons.injEq,and_true,true_and,yX,yY];exact this
   ·have:=fin s w s0 (by omega) w0 (by omega) H3 (g1.trans (g2.trans g3));simp only [uw,om,Mc,vm,Uj,fQ,Mb,mS,Tp,rU,tH,tG,nv,lN,oY,vv,vo,Ra,S7,vM,rI,sU,tC,fL,jx,RA,jw,oX,mT,NF,mQ,iV,kX,tB,vq,vz,Uh,mR,UD,UC,sZ,gR,vn,vt,Ue,iG,kY,iu,L2.start,zo,yf,zX,yI,xR,xT,List.replicate,yh,xI,zq,yG,yC,Option.some.injEq,exists_eq_left',exists_eq_left,exists_and_left,and_assoc,V.int.injEq,V.ty.injEq,V.str.injEq,V.bl.injEq,V.ref.injEq,List.cons.injEq,and_true,true_and,yX,yY];exact this
  ·have:=fin s w s0 (by omega) w0 (by omega) H2 (g1.trans g2);simp only [uw,om,Mc,vm,Uj,fQ,Mb,mS,Tp,rU,tH,tG,nv,lN,oY,vv,vo,Ra,S7,vM,rI,sU,tC,fL,jx,RA,jw,oX,mT,NF,mQ,iV,kX,tB,vq,vz,Uh,mR,UD,UC,sZ,gR,vn,vt,Ue,iG,kY,iu,L2.start,zo,yf,zX,yI,xR,xT,List.replicate,yh,xI,zq,yG,yC,Option.some.injEq,exists_eq_left',exists_eq_left,exists_and_left,and_assoc,V.int.injEq,V.ty.injEq,V.str.injEq,V.bl.injEq,V.ref.injEq,List.cons.injEq,and_true,true_and,yX,yY];exact this
theorem G8:aA ["thing"] ["thing"] (av FV):=L2.bQ
theorem JD (T:Tx K mg a au aj ak ah aq)(B:br mg base):aV P w K mg base cR 1 a.BT a.C2 ["thing"] (MC):=by
 refine T.Cn.ok G8 (λvs H Q E h=>?_) (λbZ A outer s H vs Q E hr h=>?_)
 ·obtain ⟨x,t,rfl,_⟩:=h;rfl
 ·have nd:=G8.nd;have hu:=hr.units;obtain ⟨x,t,rfl,ht,k⟩:=h;refine ⟨_,(@xo _ _ _ (@wB _ _ _ (@xv _ _ _ _ (@dR _ _ _ _ _ _ _ (xw (wQ) (by rfl) T.bL zg (@xa _ _ _ (@xf _ _ _ _ _ (pv 0) (@xf _ _ _ _ _ (cZ (v:=V.ty "int") rfl T.T5 PyProof.Rows.boot_int rfl) xp rfl) rfl))) (@gZ _ _ _ _ _ (@PR _ _ _ _ (xw (wQ) (by rfl) T.bL zg (@xa _ _ _ (@xf _ _ _ _ _ (pv 0) (@xf _ _ _ _ _ (cZ (v:=V.ty "bool") rfl T.QY PyProof.Rows.boot_bool rfl) xp rfl) rfl))))))))),?_⟩;refine (zr rfl ⟨x,t, "int", rfl,ht,.inl rfl,zr rfl ?_⟩);rcases lX ht with rfl | rfl | rfl | rfl | rfl | rfl | rfl <;> first | exact aE rfl k | exact bH rfl ⟨_,rfl,x,_, "bool", rfl,ht,.inr (.inl rfl),_,rfl,k⟩
theorem Gj:aA ["thing", "least", "most"] ["thing", "least", "most"] (av EN):=L2.bQ
theorem qC (T:Tx K mg a au aj ak ah aq)(B:br mg base):aV P w K mg base cR 2 a.Bq a.Ct ["thing", "least", "most"] (O9):=by
 have KR:=@JD P w _ _ base _ _ _ _ _ _ T B;refine T.B0.ok Gj (λvs H Q E h=>?_) (λbZ A outer s H vs Q E hr h=>?_)
 ·obtain ⟨x,t,lo,hi,rfl,_⟩:=h;rfl
 ·have nd:=Gj.nd;have hu:=hr.units;obtain ⟨x,t,lo,hi,rfl,ht,k⟩:=h;refine ⟨_,(@xo _ _ _ (@wB _ _ _ (@xv _ _ _ _ (@dR _ _ _ _ _ _ _ (xm KR (hr.mono (by decide)) rfl T.Kj T.Kq T.Kx .nil ay (@xa _ _ _ (@xf _ _ _ _ _ (pv 0) xp rfl))) (@gZ _ _ _ _ _ (PV qa qa (pv 1) (pv 0) (pv 2))))))),?_⟩;refine (zr rfl ⟨x,t,rfl,ht,zr rfl ?_⟩);by_cases h:t = "int"
  ·subst h;obtain ⟨i,rfl⟩:=Rt ht;refine bH rfl (zr rfl (zr rfl (aO rfl rfl (zr rfl ?_))));have k:Q (.bl (decide (lo<=i) && decide (i<=hi))) H:=k;by_cases h1:lo<=i
   ·rw [decide_eq_true h1] at k ⊢;exact bH rfl (zr rfl (aO rfl rfl k))
   ·rw [decide_eq_false h1] at k ⊢;exact aE rfl k
  ·rw [Vb ht h] at k;exact aE (by simpa using h) k
theorem Hw:aA ["thing"] ["thing"] (av GL):=L2.bQ
theorem Ke (T:Tx K mg a au aj ak ah aq)(B:br mg base):aV P w K mg base cR 3 a.CI a.Dx ["thing"] (Um):=by
 have AG:=@qC P w _ _ base _ _ _ _ _ _ T B;refine T.Da.ok Hw (λvs H Q E h=>?_) (λbZ A outer s H vs Q E hr h=>?_)
 ·obtain ⟨x,t,rfl,_⟩:=h;rfl
 ·have nd:=Hw.nd;have hu:=hr.units;obtain ⟨x,t,rfl,ht,k⟩:=h;refine ⟨_,(@xo _ _ _ (@wB _ _ _ (@xv _ _ _ _ (xm AG (hr.mono (by decide)) rfl T.Bk T.Bl T.Bm .nil ay (@xa _ _ _ (@xf _ _ _ _ _ (pv 0) (@xf _ _ _ _ _ xg (@xf _ _ _ _ _ (iJ (v:=V.int 1000000000) rfl T.lG ⟨_,rfl⟩) xp rfl) rfl) rfl)))))),?_⟩;exact (zr rfl ⟨x,t,iD rfl ⟨ht,k⟩⟩)
theorem G9:aA ["number", "bound"] ["number", "bound"] (av FW):=L2.bQ
theorem JE (T:Tx K mg a au aj ak ah aq)(B:br mg base):aV P w K mg base cR 1 a.BU a.C3 ["number", "bound"] (RN):=by
 refine T.Co.ok G9 (λvs H Q E h=>?_) (λbZ A outer s H vs Q E hr h=>?_)
 ·obtain ⟨o,t,rfl,_⟩:=h;rfl
 ·have nd:=G9.nd;have hu:=hr.units;obtain ⟨o,t,rfl,q⟩:=h;refine ⟨_,(@xo _ _ _ (@wB _ _ _ (@xv _ _ _ _ (@dR _ _ _ _ _ _ _ (rA (@jH _ _ _ _ _ (pv 0))) (@gZ _ _ _ _ _ (@rq _ _ _ _ _ _ _ _ tO (pv 0) (pv 1) (aK _))))))),?_⟩;cases o with
  | none=>exact (zr rfl (zr rfl (aE rfl q)))
  | some y=>exact (zr rfl (zr rfl (bH rfl (zr rfl (zr rfl (aO rfl rfl q))))))
theorem Hv:aA ["number", "bound"] ["number", "bound"] (av GK):=L2.bQ
theorem Kd (T:Tx K mg a au aj ak ah aq)(B:br mg base):aV P w K mg base cR 1 a.CG a.Dw ["number", "bound"] (Ul):=by
 refine T.C9.ok Hv (λvs H Q E h=>?_) (λbZ A outer s H vs Q E hr h=>?_)
 ·obtain ⟨o,t,rfl,_⟩:=h;rfl
 ·have nd:=Hv.nd;have hu:=hr.units;obtain ⟨o,t,rfl,q⟩:=h;refine ⟨_,(@xo _ _ _ (@wB _ _ _ (@xv _ _ _ _ (@dR _ _ _ _ _ _ _ (rA (@jH _ _ _ _ _ (pv 0))) (@gZ _ _ _ _ _ (@rq _ _ _ _ _ _ _ _ qa (pv 0) (pv 1) (aK _))))))),?_⟩;cases o with
  | none=>exact (zr rfl (zr rfl (aE rfl q)))
  | some y=>exact (zr rfl (zr rfl (bH rfl (zr rfl (zr rfl (aO rfl rfl q))))))
theorem Gn:aA ["thing"] ["thing"] (av DK):=L2.bQ
theorem IY (T:Tx K mg a au aj ak ah aq)(B:br mg base):aV P w K mg base cR 3 a.Bt a.Cw ["thing"] (vF):=by
 have AG:=@qC P w _ _ base _ _ _ _ _ _ T B;refine T.B3.ok Gn (λvs H Q E h=>?_) (λbZ A outer s H vs Q E hr h=>?_)
 ·obtain ⟨p,af,rfl,_⟩:=h;rfl
 ·have nd:=Gn.nd;have hu:=hr.units;obtain ⟨p,af,rfl,hp,h1,Wj,Vh,q⟩:=h;refine ⟨_,(@xo _ _ _ (@xu _ _ _ _ _ _ (@wG _ _ _ _ _ _ _ _ (@PW.pt _ _ _ (@gU _ _ _ _ _ _ _ (@wq _ _ _ _ (wd (xw (wQ) (by rfl) T.bL zg (@xa _ _ _ (@xf _ _ _ _ _ (pv 0) (@xf _ _ _ _ _ (cZ (v:=V.ty "list") rfl T.ji yK rfl) xp rfl) rfl))))) (@dO _ _ _ _ (@wq _ _ _ _ (PF qa qa xg (xw (xx rfl) (by rfl) T.cC PySem.boot_len (@xa _ _ _ (@xf _ _ _ _ _ (pv 0) xp rfl))) (iJ (v:=V.int 12) rfl T.oK ⟨_,rfl⟩)))))) (@xo _ _ _ (@wB _ _ _ (@xv _ _ _ _ eK))) wC) (@wB _ _ _ (@xv _ _ _ _ (xw (QT rfl rfl) (by rfl) T.Yl PyProof.Rows.boot_all (@xa _ _ _ (@xf _ _ _ _ _ (wr (own:=["room"]) (caps:=[]) rfl (show aM ["room"] [] ["thing"] (av DK) _ from L2.iw) (@wR _ _ _ _ _ rfl (pv 0)) (λ_ _ _ _=>(xk (i:=0) (show List.Nodup (["room"]:List Str) from by decide +kernel) rfl (by first|exact .inl rfl|exact .inr rfl))) (λ_ _ _ _=>cX) (λ_ _ _ _=>(xm AG (hr.mono (by decide)) rfl T.Bk T.Bl T.Bm .nil ay (@xa _ _ _ (@xf _ _ _ _ _ (pv 0) (@xf _ _ _ _ _ xg (@xf _ _ _ _ _ (iJ (v:=V.int 99) rfl T.uP ⟨_,rfl⟩) xp rfl) rfl) rfl))))) xp rfl))))))),?_⟩;have line:=eU;refine (zr rfl ⟨_, "list", "list", rfl,jq hp,.inr (.inr (.inl rfl)),zr rfl (aE rfl ?_)⟩);simp only [uw,om,Mc,vm,Uj,fQ,Mb,mS,Tp,rU,tH,tG,nv,lN,oY,vv,vo,Ra,S7,vM,rI,sU,tC,fL,jx,RA,jw,oX,mT,NF,mQ,iV,kX,tB,vq,vz,Uh,mR,UD,UC,sZ,gR,vn,vt,Ue,iG,kY,iu,L2.start,zo,yf,zX,yI,xR,xT,List.replicate,yh,xI,zq,yG,yC,Option.some.injEq,exists_eq_left',exists_eq_left,exists_and_left,and_assoc,V.int.injEq,V.ty.injEq,V.str.injEq,V.bl.injEq,V.ref.injEq,List.cons.injEq,and_true,true_and,yX,yY];refine ⟨_,.inl (aL.of hp),bH (decide_eq_true (by rw [zA];omega)) (aE (by rw [decide_eq_true (by rw [zA];omega)];rfl) ?_)⟩;refine (zr rfl ⟨p,rfl,⟨_,aL.of hp⟩,?_⟩);refine dH (K:=K) (a:=p) (xs:=af.map V.int) (λi τ acc H5=>(∃ t0,τ=[t0])/\acc=(List.replicate i true).map V.bl/\H5=H) ⟨⟨_,rfl⟩,rfl,rfl⟩ (by rw [zA];omega) ?_ ?_ ?_
  ·rintro i τ acc H5 ⟨⟨t0,rfl⟩,rfl,rfl⟩;exact ⟨by simp,aL.of hp⟩
  ·rintro i x τ acc H5 C hx ⟨⟨t0,rfl⟩,rfl,rfl⟩ hC;obtain ⟨r,hr,rfl⟩:=wN hx;have snoc:(List.replicate i true).map V.bl++[V.bl true]=(List.replicate (i + 1) true).map V.bl:=by
    rw [List.replicate_succ',zI];rfl
   obtain ⟨r0,r1⟩:=Vh r (zB hr);have e:eX 0 99 (.int r)=true:=by simp [eX,r0,r1]
   refine (zr rfl ⟨.int r, "int", 0,99,rfl,rfl,?_⟩);rw [e];exact hC _ _ _ ⟨⟨_,rfl⟩,snoc,rfl⟩
  ·rintro τ acc H5 ⟨⟨t0,rfl⟩,rfl,rfl⟩ lc lD;refine ⟨lc,rfl,_,aL.of xb,?_⟩;have:=q _ (xi (o:=HO.lst ((List.replicate (af.map V.int).length true).map V.bl)) lD);have a:(List.replicate (af.map V.int).length true).all id=true:=by simp
   rw [a];exact this
theorem FL:aA ["walkers", "thing", "one", "other", "when", "many"] ["walkers", "thing"] (av Ec):=L2.bQ
theorem Ik (T:Tx K mg a au aj ak ah aq)(B:br mg base):aV P w K mg base cR 3 a.A7 a.Ca ["walkers", "thing"] (NN):=by
 have AG:=@qC P w _ _ base _ _ _ _ _ _ T B;refine T.BD.ok FL (λvs H Q E h=>?_) (λbZ A outer s H vs Q E hr h=>?_)
 ·obtain ⟨_,_,_,_,rfl,_⟩:=h;rfl
 ·have nd:=FL.nd;have hu:=hr.units;obtain ⟨w,t,ty,r,rfl,ht,⟨a1,a2,a3,a4,a5,a8,a9⟩,hx,q⟩:=h;refine ⟨_,(@xo _ _ _ (@xu _ _ _ _ _ _ (@wG _ _ _ _ _ _ _ _ (@PW.pt _ _ _ (@gU _ _ _ _ _ _ _ (@wq _ _ _ _ (wd (xw (wQ) (by rfl) T.bL zg (@xa _ _ _ (@xf _ _ _ _ _ (pv 1) (@xf _ _ _ _ _ (cZ (v:=V.ty "tuple") rfl T.gq yF rfl) xp rfl) rfl))))) (@dO _ _ _ _ (@wA _ _ _ _ _ _ _ _ nH (xw (xx rfl) (by rfl) T.cC PySem.boot_len (@xa _ _ _ (@xf _ _ _ _ _ (pv 1) xp rfl))) xg (aK _))))) (@xo _ _ _ (@wB _ _ _ (@xv _ _ _ _ eK))) wC) (@xu _ _ _ _ _ _ (wa (pv 1) (wJ (n:=4) rfl rfl (xl (xk (i:=2) nd rfl (by first|exact .inl rfl|exact .inr rfl)) (xl (xk (i:=3) nd rfl (by first|exact .inl rfl|exact .inr rfl)) (xl (xk (i:=4) nd rfl (by first|exact .inl rfl|exact .inr rfl)) (xl (xk (i:=5) nd rfl (by first|exact .inl rfl|exact .inr rfl)) wF)))))) (@xu _ _ _ _ _ _ (@wG _ _ _ _ _ _ _ _ (@PW.pt _ _ _ (@gU _ _ _ _ _ _ _ (@wq _ _ _ _ (wd (xm AG (hr.mono (by decide)) rfl T.Bk T.Bl T.Bm .nil ay (@xa _ _ _ (@xf _ _ _ _ _ (pv 2) (@xf _ _ _ _ _ xg (@xf _ _ _ _ _ (@xy _ _ _ _ _ _ _ _ g8 (pv 0) xg) xp rfl) rfl) rfl))))) (@dO _ _ _ _ (@wq _ _ _ _ (wd (xm AG (hr.mono (by decide)) rfl T.Bk T.Bl T.Bm .nil ay (@xa _ _ _ (@xf _ _ _ _ _ (pv 3) (@xf _ _ _ _ _ xg (@xf _ _ _ _ _ (@xy _ _ _ _ _ _ _ _ g8 (pv 0) xg) xp rfl) rfl) rfl)))))))) (@xo _ _ _ (@wB _ _ _ (@xv _ _ _ _ eK))) wC) (@wB _ _ _ (@xv _ _ _ _ (@dR _ _ _ _ _ _ _ (@rq _ _ _ _ _ _ _ _ nH (pv 2) (pv 3) (aK _)) (@dR _ _ _ _ _ _ _ (xm AG (hr.mono (by decide)) rfl T.Bk T.Bl T.Bm .nil ay (@xa _ _ _ (@xf _ _ _ _ _ (pv 4) (@xf _ _ _ _ _ xg (@xf _ _ _ _ _ (iJ (v:=V.int 1000000000) rfl T.lG ⟨_,rfl⟩) xp rfl) rfl) rfl))) (@gZ _ _ _ _ _ (xm AG (hr.mono (by decide)) rfl T.Bk T.Bl T.Bm .nil ay (@xa _ _ _ (@xf _ _ _ _ _ (pv 5) (@xf _ _ _ _ _ xg (@xf _ _ _ _ _ (iJ (v:=V.int 99) rfl T.uQ ⟨_,rfl⟩) xp rfl) rfl) rfl)))))))))))),?_⟩;have Vf:H t=some (.tup [.int r.lo,.int r.hi,r.x,.int r.m]):=ht;have e1:eX 0 (w - 1) (.int r.lo)=true:=by
   have:r.lo<=w - 1:=by omega
   simp [eX,a1,this]
  have e2:eX 0 (w - 1) (.int r.hi)=true:=by
   have:r.hi<=w - 1:=by omega
   simp [eX,a3,this]
  have e4:eX 1 99 (.int r.m)=true:=by simp [eX,a8,a9]
  refine (zr rfl ⟨_, "tuple", "tuple", rfl,jo Vf,.inr (.inr (.inr rfl)),zr rfl (aE rfl ?_)⟩);refine (zr rfl ⟨t,zr rfl ⟨.inr (cD.of Vf),rfl,zr rfl (aE rfl ?_)⟩⟩);refine (zr rfl (Nu Vf ?_));refine (zr rfl (zr rfl (aO rfl rfl ⟨.int r.lo, "int", aO rfl rfl (zr rfl ?_)⟩)));rw [e1];refine aE rfl (zr rfl (zr rfl (aO rfl rfl ⟨.int r.hi, "int", aO rfl rfl (zr rfl ?_)⟩)));rw [e2];refine aE rfl (zr rfl (zr rfl ⟨rfl,zr rfl (bH (by simp [a5]) (zr rfl ⟨r.x,ty,iD rfl ⟨hx,zr rfl ?_⟩⟩))⟩));cases c:eX 1 1000000000 r.x with
  | true=>
   rw [c] at q;refine bH rfl (zr rfl ⟨.int r.m, "int", aO rfl rfl ?_⟩);rw [e4];exact q
  | false=>
   rw [c] at q;exact aE rfl q
theorem CL:aA ["meetings", "seen", "one", "other", "when", "many"] ["meetings"] (av wn):=L2.bQ
theorem Ej (T:Tx K mg a au aj ak ah aq)(B:br mg base):aV P w K mg base cR 1 a.Ah a.Au ["meetings"] (Pb):=by
 refine T.Ap.ok CL (λvs H Q E h=>?_) (λbZ A outer s H vs Q E hr h=>?_)
 ·obtain ⟨_,_,_,rfl,_⟩:=h;rfl
 ·have nd:=CL.nd;have hu:=hr.units;obtain ⟨l,fs,w0,rfl,hL,MZ,raw,qN,qY⟩:=h;refine ⟨_,(@xo _ _ _ (@xu _ _ _ _ _ _ (xq (i:=1) nd rfl (by first|exact .inl rfl|exact .inr rfl) (vQ uO (by rfl) T.Yk PyProof.Rows.boot_set)) (@xu _ _ _ _ _ _ (wt PassesOwn.never rfl (@wR _ _ _ _ _ rfl (pv 0)) (wJ (n:=4) rfl rfl (xl (xk (i:=2) nd rfl (by first|exact .inl rfl|exact .inr rfl)) (xl (xk (i:=3) nd rfl (by first|exact .inl rfl|exact .inr rfl)) (xl (xk (i:=4) nd rfl (by first|exact .inl rfl|exact .inr rfl)) (xl (xk (i:=5) nd rfl (by first|exact .inl rfl|exact .inr rfl)) wF))))) (@xo _ _ _ (@xu _ _ _ _ _ _ (@wG _ _ _ _ _ _ _ _ (@PW.pt _ _ _ (@gU _ _ _ _ _ _ _ (@wA _ _ _ _ _ _ _ _ (P1 hu) (@wT _ _ _ _ _ (@xa _ _ _ (@xf _ _ _ _ _ (pv 2) (@xf _ _ _ _ _ (pv 4) xp rfl) rfl))) (pv 1) rfl) (@dO _ _ _ _ (@wA _ _ _ _ _ _ _ _ (P1 hu) (@wT _ _ _ _ _ (@xa _ _ _ (@xf _ _ _ _ _ (pv 3) (@xf _ _ _ _ _ (pv 4) xp rfl) rfl))) (pv 1) rfl)))) (@xo _ _ _ (@wB _ _ _ (@xv _ _ _ _ eK))) wC) (@xu _ _ _ _ _ _ (wS (PX PySem.F.slot_set_add PySem.F.type_set_add (M1 hu) (pv 1) (@xa _ _ _ (@xf _ _ _ _ _ (@wT _ _ _ _ _ (@xa _ _ _ (@xf _ _ _ _ _ (pv 2) (@xf _ _ _ _ _ (pv 4) xp rfl) rfl))) xp rfl)))) (@wB _ _ _ (wS (PX PySem.F.slot_set_add PySem.F.type_set_add (M1 hu) (pv 1) (@xa _ _ _ (@xf _ _ _ _ _ (@wT _ _ _ _ _ (@xa _ _ _ (@xf _ _ _ _ _ (pv 3) (@xf _ _ _ _ _ (pv 4) xp rfl) rfl))) xp rfl))))))))) (@wB _ _ _ (@xv _ _ _ _ eK))))),?_⟩;have line:=eU;refine ⟨rfl,λsp um=>?_⟩;refine (zr rfl ⟨l,rfl,⟨_,(xi um).seq (aL.of hL.1)⟩,?_⟩);refine wv (K:=K) (a:=l) (xs:=fs.map λa=>V.ref a.1) (λi σ H5=>∃ xs:List (Addr×List Int),(∃ v2 v3 v4 v5,σ=[some (.ref l),some (.ref sp),v2,v3,v4,v5])/\aB H H5/\H5 sp=some (kq P w sp xs)/\(∀ e∈xs,H5 e.1=some (.tup (e.2.map V.int)))/\xs.length<=2 * i/\(∀ e∈xs,∃ j,j < i/\∃ r,fs[j]?=some r/\(e.2=[r.2.lo,r.2.t]\/e.2=[r.2.hi,r.2.t]))/\(∀ r∈fs.take i,[r.2.lo,r.2.t]∈xs.map (·.2)/\[r.2.hi,r.2.t]∈xs.map (·.2))/\((fs.take i).map (·.2)).Pairwise Ro) ?_ ?_ ?_ ?_
  ·exact ⟨[],⟨_,_,_,_,rfl⟩,xi um,xb,(λ_ z=>nomatch z),zb _,(λ_ z=>nomatch z),(λ_ z=>nomatch z),List.Pairwise.nil⟩
  ·rintro i σ H5 _ ⟨xs,_,sm,_⟩;exact sm.seq (aL.of hL.1)
  ·rintro i x σ H5 hx ⟨xs,⟨v2,v3,v4,v5,rfl⟩,sm,hs,hk,jY,old,all2,pw⟩;obtain ⟨r,hr,rfl⟩:=wN hx;have hi:i < fs.length:=(zC.mp hr).1;have fZ:H5 r.1=some (.tup [.int r.2.lo,.int r.2.hi,.int r.2.t,.int r.2.m]):=sm _ _ (hL.2 r (zB hr));have Yi:∀ k,(k=[r.2.lo,r.2.t]\/k=[r.2.hi,r.2.t])->k∈xs.map (·.2)->¬ (fs.map (·.2)).Pairwise Ro:=λk rM z=>by
    obtain ⟨e,he,rfl⟩:=zP.mp z;obtain ⟨j,hj,r',Vi,h⟩:=old e he;refine UP (i:=j) (j:=i) (x:=r'.2) (y:=r.2) (by rw [zS,Vi];rfl) (by rw [zS,hr];rfl) hj λaaS=>?_;rcases h with h | h <;> rcases rM with rM | rM <;> (rw [h] at rM;injection rM with q1 q2;injection q2 with q2 _;have:=aaS q2;unfold apart at this;omega)
   refine (Nu fZ ?_);have nsp:∀ {t:Addr} {H9:Hp}{o:HO},H9 sp=some o->H9 t=none->t≠sp:=λa b z=>by rw [z,a] at b;cases b
   refine (zr rfl (zr rfl ⟨by show 2<=sizeLine;omega,λt1 Tv=>(zr rfl ⟨sp,xs,t1,[r.2.lo,r.2.t],rfl,rfl,?_,xb,λe he=>xi Tv _ _ (hk e he),zr rfl ?_⟩)⟩))
   ·rw [xj (nsp hs Tv).symm];exact hs
   have s1:=xi (o:=HO.tup [V.int r.2.lo,V.int r.2.t]) Tv;by_cases d1:[r.2.lo,r.2.t]∈xs.map (·.2)
   ·rw [decide_eq_true d1];exact bH rfl (bH rfl (qY (Yi _ (.inl rfl) d1) _ (sm.trans s1)))
   rw [decide_eq_false d1];have hs1:=s1 _ _ hs;have YS:=λe he=>s1 _ _ (hk e he);generalize upd H5 t1 (HO.tup [V.int r.2.lo,V.int r.2.t])=H6 at *;refine aE rfl (zr rfl (zr rfl ⟨by show 2<=sizeLine;omega,λt2 pB=>(zr rfl ⟨sp,xs,t2,[r.2.hi,r.2.t],rfl,rfl,xi pB _ _ hs1,xb,λe he=>xi pB _ _ (YS e he),zr rfl ?_⟩)⟩));have s2:=s1.trans (xi (o:=HO.tup [V.int r.2.hi,V.int r.2.t]) pB);by_cases d2:[r.2.hi,r.2.t]∈xs.map (·.2)
   ·rw [decide_eq_true d2];exact bH rfl (qY (Yi _ (.inr rfl) d2) _ (sm.trans s2))
   rw [decide_eq_false d2];have M7:=xi (o:=HO.tup [V.int r.2.hi,V.int r.2.t]) pB _ _ hs1;have rM:=λe he=>xi (o:=HO.tup [V.int r.2.hi,V.int r.2.t]) pB _ _ (YS e he);generalize upd H6 t2 (HO.tup [V.int r.2.hi,V.int r.2.t])=H7 at *;refine aE rfl ?_;have ne:r.2.lo≠r.2.hi:=(raw r.2 (zP.mpr ⟨r,zB hr,rfl⟩)).2.2.2.2.1;refine (zr rfl ⟨⟨sp,xs,rfl,M7⟩,zr rfl (zr rfl ⟨by show 2<=sizeLine;omega,λt3 Wa=>⟨sp,xs,t3,[r.2.lo,r.2.t],rfl,rfl,xi Wa _ _ M7,xb,λe he=>xi Wa _ _ (rM e he),by omega,λz=>absurd z d1,λ_=>?_⟩⟩)⟩);have s3:=(sm.trans s2).trans (xi (o:=HO.tup [V.int r.2.lo,V.int r.2.t]) Wa);have s3':=aB.put (o:=kq P w sp (xs++[(t3,[r.2.lo,r.2.t])])) um s3;have n3:t3≠sp:=λz=>by rw [z,M7] at Wa;cases Wa
   have hk3:∀ e∈xs++[(t3,[r.2.lo,r.2.t])],upd (upd H7 t3 (HO.tup [V.int r.2.lo,V.int r.2.t])) sp (kq P w sp (xs++[(t3,[r.2.lo,r.2.t])])) e.1=some (.tup (e.2.map V.int)):=λe he=>by
    rcases zT.mp he with h | h
    ·have h1:=rM e h;rw [xj (cT h1 M7 (by intro z;cases z))];exact xi Wa _ _ h1
    ·cases zF.mp h;show upd (upd H7 t3 _) sp _ t3=_;rw [xj n3];exact xb
   have YO:upd (upd H7 t3 (HO.tup [V.int r.2.lo,V.int r.2.t])) sp (kq P w sp (xs++[(t3,[r.2.lo,r.2.t])])) sp=some (kq P w sp (xs++[(t3,[r.2.lo,r.2.t])])):=xb;refine (zr rfl ⟨⟨sp,zr rfl YO⟩,zr rfl (zr rfl ⟨by show 2<=sizeLine;omega,λt4 Ve=>⟨sp,xs++[(t3,[r.2.lo,r.2.t])],t4,[r.2.hi,r.2.t],rfl,rfl,xi Ve _ _ YO,xb,λe he=>xi Ve _ _ (hk3 e he),by rw [zE,yA];omega,λz=>?_,λ_=>?_⟩⟩)⟩)
   ·exfalso;rw [zI] at z;rcases zT.mp z with z | z
    ·exact d2 z
    ·have z:=zF.mp z;injection z with z _
     exact ne z.symm
   have n4:t4≠sp:=λz=>by subst z;exact absurd (YO.symm.trans Ve) (by intro h;cases h)
   refine ⟨xs++[(t3,[r.2.lo,r.2.t])]++[(t4,[r.2.hi,r.2.t])],⟨_,_,_,_,rfl⟩,aB.put um (s3'.trans (xi Ve)),xb,λe he=>?_,by rw [zE,zE,yA,yA];omega,λe he=>?_,λy hy=>?_,?_⟩
   ·rcases zT.mp he with h | h
    ·have h1:=hk3 e h;rw [xj (cT h1 YO (by intro z;cases z))];exact xi Ve _ _ h1
    ·cases zF.mp h;show upd (upd _ t4 _) sp _ t4=_;rw [xj n4];exact xb
   ·rcases zT.mp he with h | h
    ·rcases zT.mp h with h | h
     ·obtain ⟨j,hj,r',Vi,e'⟩:=old e h;exact ⟨j,by omega,r',Vi,e'⟩
     ·cases zF.mp h;exact ⟨i,by omega,r,hr,.inl rfl⟩
    ·cases zF.mp h;exact ⟨i,by omega,r,hr,.inr rfl⟩
   ·rw [wj hr] at hy;rcases zT.mp hy with h | h
    ·obtain ⟨y1,y2⟩:=all2 y h;rw [zI,zI];exact ⟨zd _ (zd _ y1),zd _ (zd _ y2)⟩
    ·rw [zF.mp h,zI,zI];exact ⟨zd _ (zK _ (.head _)),zK _ (.head _)⟩
   ·rw [wj hr,zI];refine R1 pw λy hy=>?_;obtain ⟨z,hz,rfl⟩:=zP.mp hy;obtain ⟨y1,y2⟩:=all2 z hz;intro et;rw [et] at y1 y2;refine ⟨λq=>d1 (by rw [<-q];exact y1),λq=>d2 (by rw [<-q];exact y1),λq=>d1 (by rw [<-q];exact y2),λq=>d2 (by rw [<-q];exact y2)⟩
  ·rintro σ H5 ⟨xs,⟨v2,v3,v4,v5,rfl⟩,sm,_,_,_,_,_,pw⟩;rw [zA,zn] at pw;exact qN pw _ sm
theorem Ez:aA ["meeting", "one", "other", "when", "many"] ["meeting"] (av DC):=L2.bQ
theorem Hm (T:Tx K mg a au aj ak ah aq)(B:br mg base):aV P w K mg base cR 1 a.AL a.Bj ["meeting"] (Uu):=by
 refine T.A3.ok Ez (λvs H Q E h=>?_) (λbZ A outer s H vs Q E hr h=>?_)
 ·obtain ⟨t,r,rfl,_⟩:=h;rfl
 ·have nd:=Ez.nd;have hu:=hr.units;obtain ⟨t,r,rfl,ht,q⟩:=h;refine ⟨_,(@xo _ _ _ (@xu _ _ _ _ _ _ (wa (pv 0) (wJ (n:=4) rfl rfl (xl (xk (i:=1) nd rfl (by first|exact .inl rfl|exact .inr rfl)) (xl (xk (i:=2) nd rfl (by first|exact .inl rfl|exact .inr rfl)) (xl (xk (i:=3) nd rfl (by first|exact .inl rfl|exact .inr rfl)) (xl (xk (i:=4) nd rfl (by first|exact .inl rfl|exact .inr rfl)) wF)))))) (@wB _ _ _ (@xv _ _ _ _ (@wT _ _ _ _ _ (@xa _ _ _ (@xf _ _ _ _ _ (xw (fM rfl) (by rfl) T.qJ yU (@xa _ _ _ (@xf _ _ _ _ _ (pv 1) (@xf _ _ _ _ _ (pv 2) xp rfl) rfl))) (@xf _ _ _ _ _ (xw (fN rfl) (by rfl) T.uT yo (@xa _ _ _ (@xf _ _ _ _ _ (pv 1) (@xf _ _ _ _ _ (pv 2) xp rfl) rfl))) (@xf _ _ _ _ _ (pv 3) (@xf _ _ _ _ _ (pv 4) xp rfl) rfl) rfl) rfl))))))),?_⟩;have line:=eU;have Vf:H t=some (.tup [.int r.lo,.int r.hi,.int r.t,.int r.m]):=ht;simp only [uw,om,Mc,vm,Uj,fQ,Mb,mS,Tp,rU,tH,tG,nv,lN,oY,vv,vo,Ra,S7,vM,rI,sU,tC,fL,jx,RA,jw,oX,mT,NF,mQ,iV,kX,tB,vq,vz,Uh,mR,UD,UC,sZ,gR,vn,vt,Ue,iG,kY,iu,L2.start,zo,yf,zX,yI,xR,xT,List.replicate,yh,xI,zq,yG,yC,Option.some.injEq,exists_eq_left',exists_eq_left,exists_and_left,and_assoc,V.int.injEq,V.ty.injEq,V.str.injEq,V.bl.injEq,V.ref.injEq,List.cons.injEq,and_true,true_and,yX,yY];refine ⟨_,cD.of Vf,rfl,iD rfl (iD rfl (iD rfl (aO rfl rfl (zr rfl (zr rfl (zr rfl (zr rfl ⟨by omega,λp hp=>?_⟩)))))))⟩;have e1:(if r.hi < r.lo then r.hi else r.lo)=min r.lo r.hi:=by split <;> omega
  have e2:(if r.hi > r.lo then r.hi else r.lo)=max r.lo r.hi:=by split <;> omega
  rw [e1,e2];exact q p _ (xi hp) xb
theorem Gi:aA ["rooms", "meetings", "meeting", "told"] ["rooms", "meetings"] (av DJ):=L2.bQ
theorem Gu (T:Tx K mg a au aj ak ah aq)(B:br mg base):aV P w K mg base (vc P w) 4 a.Bp a.Bn ["rooms", "meetings"] (RK a.AJ a.tP cg):=by
 have J8:=@IY P w _ _ base _ _ _ _ _ _ T B;have Jw:=@Ik P w _ _ base _ _ _ _ _ _ T B;have EI:=@Ej P w _ _ base _ _ _ _ _ _ T B;have Ih:=@Hm P w _ _ base _ _ _ _ _ _ T B;refine T.BZ.ZJ T.Zs Gi (λvs H Q E h=>?_) (λA outer s H vs Q E hr h=>?_)
 ·rcases h with ⟨_,_,_,_,rfl,_⟩ | ⟨_,_,rfl,_⟩ | ⟨_,_,_,_,rfl,_⟩ <;> rfl
 ·have nd:=Gi.nd;have hu:=hr.units
  skip
  refine ⟨_,(@xo _ _ _ (@xu _ _ _ _ _ _ (@wG _ _ _ _ _ _ _ _ (@wq _ _ _ _ (wd (xm J8 (hr.mono (by decide)) rfl T.JJ T.JO T.JS .nil ay (@xa _ _ _ (@xf _ _ _ _ _ (pv 0) xp rfl))))) (@xo _ _ _ (@wB _ _ _ (gW rfl rfl rfl rfl rfl T.E5 T.Gh))) wC) (@xu _ _ _ _ _ _ (@wG _ _ _ _ _ _ _ _ (@PW.pt _ _ _ (@gU _ _ _ _ _ _ _ (@wq _ _ _ _ (wd (xw (wQ) (by rfl) T.bL zg (@xa _ _ _ (@xf _ _ _ _ _ (pv 1) (@xf _ _ _ _ _ (cZ (v:=V.ty "list") rfl T.ji yK rfl) xp rfl) rfl))))) (@dO _ _ _ _ (@wA _ _ _ _ _ _ _ _ nI (xw (xx rfl) (by rfl) T.cC PySem.boot_len (@xa _ _ _ (@xf _ _ _ _ _ (pv 1) xp rfl))) (iJ (v:=V.int 60) rfl T.lT ⟨_,rfl⟩) (aK _))))) (@xo _ _ _ (@wB _ _ _ (gW rfl rfl rfl rfl rfl T.E5 T.Gh))) wC) (@xu _ _ _ _ _ _ (wt PY rfl (@wR _ _ _ _ _ rfl (pv 1)) (xk (i:=2) nd rfl (by first|exact .inl rfl|exact .inr rfl)) (@xo _ _ _ (@wB _ _ _ (@wG _ _ _ _ _ _ _ _ (@wq _ _ _ _ (wd (xm Jw (hr.mono (by decide)) rfl T.Jc T.Jg T.Jk .nil ay (@xa _ _ _ (@xf _ _ _ _ _ (xw (xx rfl) (by rfl) T.cC PySem.boot_len (@xa _ _ _ (@xf _ _ _ _ _ (pv 0) xp rfl))) (@xf _ _ _ _ _ (pv 2) xp rfl) rfl))))) (@xo _ _ _ (@wB _ _ _ (gW rfl rfl rfl rfl rfl T.E5 T.Gh))) wC)))) (@xu _ _ _ _ _ _ (@wG _ _ _ _ _ _ _ _ (wd (xm EI (hr.mono (by decide)) rfl T.EE T.EF T.EG .nil ay (@xa _ _ _ (@xf _ _ _ _ _ (pv 1) xp rfl)))) (@xo _ _ _ (@wB _ _ _ (gW rfl rfl rfl rfl rfl T.E5 T.Gh))) wC) (@xu _ _ _ _ _ _ (PS.rE (fT (ix:=3) nd rfl (by first|exact .inl rfl|exact .inr rfl) (own:=["meeting"]) (caps:=[]) rfl (show aM ["meeting"] [] ["rooms", "meetings", "meeting", "told"] (av DJ) _ from L2.iw) (@wR _ _ _ _ _ rfl (pv 1)) (λ_ _ _ _=>(xk (i:=0) (show List.Nodup (["meeting"]:List Str) from by decide +kernel) rfl (by first|exact .inl rfl|exact .inr rfl))) (λ_ _ _ _=>cX) (λ_ _ _ _=>(xm Ih (hr.mono (by decide)) rfl T.HR T.HU T.HW .nil ay (@xa _ _ _ (@xf _ _ _ _ _ (pv 0) xp rfl)))))) (@wB _ _ _ (PS.rE (@xv _ _ _ _ (@wT _ _ _ _ _ (@xa _ _ _ (@xf _ _ _ _ _ (wz (dc) (by rfl) T.gq yF (@xa _ _ _ (@xf _ _ _ _ _ (pv 0) xp rfl))) (@xf _ _ _ _ _ (wz (dc) (by rfl) T.gq yF (@xa _ _ _ (@xf _ _ _ _ _ (vP (N:=["row"]) (pn := "row") (ok:=(λl=>l.length=4)) (kf:=Ql) rfl T.uS rfl T.Zr B rfl rfl (hr.mono (by decide)) ⟨rfl,rfl,rfl,by decide +kernel,rfl,by decide +kernel,by decide +kernel⟩ (λ_ _ _ _=>rfl) Ss (λ_ _ _ _ _=>⟨_,(@wT _ _ _ _ _ (@xa _ _ _ (@xf _ _ _ _ _ (@wE _ _ _ _ _ _ _ (wK rfl) (pv 0) xg (λ_ _=>rfl)) (@xf _ _ _ _ _ (@wE _ _ _ _ _ _ _ (wK rfl) (pv 0) xg (λ_ _=>rfl)) xp rfl) rfl))),(by intro a r h ho;simp only [uw,om,Mc,vm,Uj,fQ,Mb,mS,Tp,rU,tH,tG,nv,lN,oY,vv,vo,Ra,S7,vM,rI,sU,tC,fL,jx,RA,jw,oX,mT,NF,mQ,iV,kX,tB,vq,vz,Uh,mR,UD,UC,sZ,gR,vn,vt,Ue,iG,kY,iu,L2.start,zo,yf,zX,yI,xR,xT,List.replicate,yh,xI,zq,yG,yC,Option.some.injEq,exists_eq_left',exists_eq_left,exists_and_left,and_assoc,V.int.injEq,V.ty.injEq,V.str.injEq,V.bl.injEq,V.ref.injEq,List.cons.injEq,and_true,true_and,yX,yY];exact Sq h ho)⟩) (pv 3) rfl) xp rfl))) xp rfl) rfl)))))))))))),?_⟩;rcases h with ⟨pr,pm,af,fs,rfl,hp,h1,Wj,Vh,hL,raw,mt,q⟩ | ⟨pr,pm,rfl,⟨af,fs,hp,h1,Wj,Vh,hL,MZ,fZ,bad⟩,q⟩ | ⟨pr,pm,af,fs,rfl,hp,h1,Wj,Vh,hL,MZ,raw,bad,q⟩
  ·skip
   have line:=eU;have MZ:fs.length<=60:=by have:=raw.jY;rw [zA] at this;exact this
   refine (zr rfl ⟨pr,af,rfl,hp,h1,Wj,Vh,λH1 s1=>(zr rfl (aE rfl ?_))⟩);refine (zr rfl ⟨_, "list", "list", rfl,jq (s1 _ _ hL.1),.inr (.inr (.inl rfl)),zr rfl (aE rfl ?_)⟩);refine (zr rfl ⟨pm,zr rfl ⟨.inl (aL.of (s1 _ _ hL.1)),aO rfl rfl (zr rfl (aE (decide_eq_false (by rw [zA];omega)) ?_))⟩⟩);refine (zr rfl ⟨pm,rfl,⟨_,aL.of (s1 _ _ hL.1)⟩,?_⟩);refine wv (K:=K) (a:=pm) (xs:=fs.map λa=>V.ref a.1) (λi σ H5=>(∃ v2,σ=[some (.ref pr),some (.ref pm),v2,none])/\H1=H5) ⟨⟨_,rfl⟩,rfl⟩ ?_ ?_ ?_
   ·rintro i σ H5 _ ⟨_,rfl⟩;exact aL.of (s1 _ _ hL.1)
   ·rintro i x σ H5 hx ⟨⟨v2,rfl⟩,rfl⟩;obtain ⟨r,hr,rfl⟩:=wN hx;have hm:=zB hr;obtain ⟨f1,f2,f3,f4,f5,f6,f7,f8,f9⟩:=raw.each r.2 (zP.mpr ⟨r,hm,rfl⟩);refine (zr rfl ⟨pr,zr rfl ⟨.inl (aL.of (s1 _ _ hp)),zr rfl ⟨_,r.1, "int", ⟨r.2.lo,r.2.hi,.int r.2.t,r.2.m⟩,rfl,s1 _ _ (hL.2 r hm),⟨f1,?_,f3,?_,f5,f8,f9⟩,rfl,zr rfl (aE ?_ ⟨⟨_,rfl⟩,rfl⟩)⟩⟩⟩)
    ·rw [zA];exact f2
    ·rw [zA];exact f4
    ·show (!eX 1 1000000000 (.int r.2.t))=false;simp [eX,f6,f7]
   rintro σ H5 ⟨⟨v2,rfl⟩,rfl⟩;refine (zr rfl ⟨pm,fs,zr rfl ⟨hL.same s1,MZ,raw.each,λ_ H2 s2=>(zr rfl (aE rfl ?_)),λno=>absurd raw.pw no⟩⟩);have Yy:=s1.trans s2;refine (zr rfl ⟨pm,rfl,⟨_,aL.of (Yy _ _ hL.1)⟩,?_⟩);refine dH (K:=K) (a:=pm) (xs:=fs.map λa=>V.ref a.1) (λi τ acc H5=>∃ ts:List (Addr×M4),(∃ t0,τ=[t0])/\acc=(ts.map λa=>V.ref a.1)/\ts.map (·.2)=(fs.take i).map (λa=>a.2.norm)/\iC H5 ts/\aB H H5) ⟨[],⟨_,rfl⟩,rfl,rfl,(λ_ z=>nomatch z),Yy⟩ (by rw [zA];omega) ?_ ?_ ?_
   ·rintro i τ acc H5 ⟨ts,⟨t0,rfl⟩,rfl,TV,Yz,sm⟩;have:=congrArg List.length TV;rw [zA,zA,zZ] at this;exact ⟨by rw [zA];omega,aL.of (sm _ _ hL.1)⟩
   ·rintro i x τ acc H5 C hx ⟨ts,⟨t0,rfl⟩,rfl,TV,Yz,sm⟩ hC;obtain ⟨r,hr,rfl⟩:=wN hx;refine (zr rfl ⟨r.1,r.2,rfl,sm _ _ (hL.2 r (zB hr)),λt' H6 s6 Vf=>hC _ _ _ ⟨ts++[(t',r.2.norm)],⟨_,rfl⟩,by rw [zI];rfl,by rw [zI,wj hr,zI,TV];rfl,λa ha=>?_,sm.trans s6⟩⟩);rcases zT.mp ha with h | h
    ·exact s6 _ _ (Yz a h)
    ·cases zF.mp h;exact Vf
   rintro τ acc H5 ⟨ts,⟨t0,rfl⟩,rfl,TV,Yz,sm⟩ lt fk;rw [zA,zn] at TV;have lts:ts.length=fs.length:=by have:=congrArg List.length TV;rwa [zA,zA] at this
   have sn:=xi (o:=HO.lst (ts.map λa=>V.ref a.1)) fk;have h6:upd H5 lt (HO.lst (ts.map λa=>V.ref a.1)) lt=some (.lst (ts.map λa=>V.ref a.1)):=xb;have s6:=sm.trans sn;have rw6:=Yz.aS (bV.same sn);generalize upd H5 lt (HO.lst (ts.map λa=>V.ref a.1))=H6 at *;refine (zr rfl ⟨pr,zr rfl (.inl ⟨aL.of (s6 _ _ hp),λtr htr=>?_⟩)⟩);have s7:=xi (o:=HO.tup (af.map V.int)) htr;have h7r:upd H6 tr (HO.tup (af.map V.int)) tr=some (.tup (af.map V.int)):=xb;have rw7:=rw6.aS (bV.same s7);have h7:=s7 _ _ h6;generalize upd H6 tr (HO.tup (af.map V.int))=H7 at *;have m7:=L2.MT.same mt (s6.trans s7);refine (zr rfl ⟨lt,ts.map (λa=>(a.1,a.2.ints)),rfl,by rw [z4];exact h7,by rw [zA];omega,m7,λx hx=>?_,λl qs H8 XH b8 m8 h8 pm8 so8=>?_⟩)
   ·obtain ⟨y,hy,rfl⟩:=zP.mp hx;exact ⟨rw7 y hy,rfl⟩
   obtain ⟨ps,ZI,sps,rfl⟩:=LV pm8 so8;have gd:Good af.length (ps.map (·.2)):=by
    refine Loose.good2 ?_ ZI sps;have:=raw.loose;rw [z4] at this;rw [TV];exact this
   refine ⟨l,zr rfl (.inl ⟨aL.of h8,λtm htm=>⟨by show 2<=sizeLine;omega,λb hb=>?_⟩⟩)⟩;have neT:∀ x u,H7 x=some u->(∀ ys,u≠.jv ys)->x≠a.tP:=λx u e n z=>by
    rcases m7 with m | ⟨_,m,_⟩ <;> (rw [z,m] at e;cases e;exact n _ rfl)
   have s9:=(xi (o:=HO.tup (List.map (λa=>V.ref a.1) (List.map (λa:Addr×M4=>(a.1,a.2.ints)) ps))) htm).trans (xi (o:=HO.tup [V.ref tr,V.ref tm]) hb);refine q b tr tm ps _ (λx u n e=>s9 _ _ (b8 x u n (s7 _ _ (s6 _ _ e)))) (L2.MT.same m8 s9) ⟨xb,s9 _ _ (b8 _ _ (neT _ _ h7r (by intro ys z;cases z)) h7r),?_,λx hx=>?_⟩ gd ?_
   ·rw [xj (xh xb hb),xb,z4];rfl
   ·have h0:=rw7 x (ZI.mem_iff.mp hx);exact s9 _ _ (b8 _ _ (neT _ _ h0 (by intro ys z;cases z)) h0)
   ·have:=ZI.map (·.2);rw [TV] at this;exact this
  ·have line:=eU;refine (zr rfl ⟨pr,af,rfl,hp,h1,Wj,Vh,λH1 s1=>(zr rfl (aE rfl ?_))⟩);refine (zr rfl ⟨_, "list", "list", rfl,jq (s1 _ _ hL),.inr (.inr (.inl rfl)),zr rfl (aE rfl ?_)⟩);refine (zr rfl ⟨pm,zr rfl ⟨.inl (aL.of (s1 _ _ hL)),aO rfl rfl (zr rfl (aE (decide_eq_false (by rw [zA];omega)) ?_))⟩⟩);refine (zr rfl ⟨pm,rfl,⟨_,aL.of (s1 _ _ hL)⟩,?_⟩);refine wv (K:=K) (a:=pm) (xs:=fs.map λa=>V.ref a.1) (λi σ H5=>(∃ v2,σ=[some (.ref pr),some (.ref pm),v2,none])/\H1=H5/\∀ r∈fs.take i,eX 1 1000000000 r.2.x=true) ⟨⟨_,rfl⟩,rfl,λ_ z=>nomatch z⟩ ?_ ?_ ?_
   ·rintro i σ H5 _ ⟨_,rfl,_⟩;exact aL.of (s1 _ _ hL)
   ·rintro i x σ H5 hx ⟨⟨v2,rfl⟩,rfl,al⟩;obtain ⟨r,hr,rfl⟩:=wN hx;have hm:=zB hr;obtain ⟨k1,⟨f1,f2,f3,f4,f5,f8,f9⟩,ty,k3⟩:=fZ r hm;refine (zr rfl ⟨pr,zr rfl ⟨.inl (aL.of (s1 _ _ hp)),zr rfl ⟨_,r.1,ty,r.2,rfl,s1 _ _ k1,⟨f1,?_,f3,?_,f5,f8,f9⟩,sQ s1 k3,zr rfl ?_⟩⟩⟩)
    ·rw [zA];exact f2
    ·rw [zA];exact f4
    cases c:eX 1 1000000000 r.2.x with
    | true=>
     refine aE rfl ⟨⟨_,rfl⟩,rfl,λy hy=>?_⟩;rw [wj hr] at hy;rcases zT.mp hy with h | h
     ·exact al y h
     ·rw [zF.mp h];exact c
    | false=>exact bH rfl (q _ s1)
   ·rintro σ H5 ⟨_,rfl,al⟩;exfalso;obtain ⟨r,hm,no⟩:=bad;have:=al r (by rw [zA,zn];exact hm);rw [no] at this;cases this
  ·have line:=eU;refine (zr rfl ⟨pr,af,rfl,hp,h1,Wj,Vh,λH1 s1=>(zr rfl (aE rfl ?_))⟩);refine (zr rfl ⟨_, "list", "list", rfl,jq (s1 _ _ hL.1),.inr (.inr (.inl rfl)),zr rfl (aE rfl ?_)⟩);refine (zr rfl ⟨pm,zr rfl ⟨.inl (aL.of (s1 _ _ hL.1)),aO rfl rfl (zr rfl (aE (decide_eq_false (by rw [zA];omega)) ?_))⟩⟩);refine (zr rfl ⟨pm,rfl,⟨_,aL.of (s1 _ _ hL.1)⟩,?_⟩);refine wv (K:=K) (a:=pm) (xs:=fs.map λa=>V.ref a.1) (λi σ H5=>(∃ v2,σ=[some (.ref pr),some (.ref pm),v2,none])/\H1=H5) ⟨⟨_,rfl⟩,rfl⟩ ?_ ?_ ?_
   ·rintro i σ H5 _ ⟨_,rfl⟩;exact aL.of (s1 _ _ hL.1)
   ·rintro i x σ H5 hx ⟨⟨v2,rfl⟩,rfl⟩;obtain ⟨r,hr,rfl⟩:=wN hx;have hm:=zB hr;obtain ⟨f1,f2,f3,f4,f5,f6,f7,f8,f9⟩:=raw r.2 (zP.mpr ⟨r,hm,rfl⟩);refine (zr rfl ⟨pr,zr rfl ⟨.inl (aL.of (s1 _ _ hp)),zr rfl ⟨_,r.1, "int", ⟨r.2.lo,r.2.hi,.int r.2.t,r.2.m⟩,rfl,s1 _ _ (hL.2 r hm),⟨f1,?_,f3,?_,f5,f8,f9⟩,rfl,zr rfl (aE ?_ ⟨⟨_,rfl⟩,rfl⟩)⟩⟩⟩)
    ·rw [zA];exact f2
    ·rw [zA];exact f4
    ·show (!eX 1 1000000000 (.int r.2.t))=false;simp [eX,f6,f7]
   rintro σ H5 ⟨⟨v2,rfl⟩,rfl⟩;exact (zr rfl ⟨pm,fs,zr rfl ⟨hL.same s1,MZ,raw,λpw=>absurd pw bad,λ_ H2 s2=>(zr rfl (bH rfl (q _ (s1.trans s2))))⟩⟩)
theorem Dh:aA ["book", "thing"] ["book", "thing"] (av wu):=L2.bQ
theorem EW (T:Tx K mg a au aj ak ah aq)(B:br mg base):aV P w K mg base cR 3 a.Aj a.AA ["book", "thing"] (vC):=by
 have AG:=@qC P w _ _ base _ _ _ _ _ _ T B;refine T.Ar.ok Dh (λvs H Q E h=>?_) (λbZ A outer s H vs Q E hr h=>?_)
 ·obtain ⟨b,x,t,_,_,_,_,rfl,_⟩:=h;rfl
 ·have nd:=Dh.nd;have hu:=hr.units;obtain ⟨b,x,t,af,tr,tm,ps,rfl,hb,ht,q⟩:=h;refine ⟨_,(@xo _ _ _ (@wB _ _ _ (@xv _ _ _ _ (xm AG (hr.mono (by decide)) rfl T.Bk T.Bl T.Bm .nil ay (@xa _ _ _ (@xf _ _ _ _ _ (pv 1) (@xf _ _ _ _ _ xg (@xf _ _ _ _ _ (@xy _ _ _ _ _ _ _ _ g8 (xw (xx rfl) (by rfl) T.cC PySem.boot_len (@xa _ _ _ (@xf _ _ _ _ _ (@wE _ _ _ _ _ _ _ (wK rfl) (pv 0) xg (λ_ _=>rfl)) xp rfl))) xg) xp rfl) rfl) rfl)))))),?_⟩;refine (zr rfl (zr rfl (kE hb.book rfl ⟨tm,zr rfl ⟨.inr (cD.of hb.meets),aO rfl rfl ⟨x,t,iD rfl ⟨ht,?_⟩⟩⟩⟩)));rw [zA];exact q
theorem Gk:aA ["book", "thing"] ["book", "thing"] (av EO):=L2.bQ
theorem IV (T:Tx K mg a au aj ak ah aq)(B:br mg base):aV P w K mg base cR 3 a.Br a.Cu ["book", "thing"] (vB):=by
 have AG:=@qC P w _ _ base _ _ _ _ _ _ T B;refine T.B1.ok Gk (λvs H Q E h=>?_) (λbZ A outer s H vs Q E hr h=>?_)
 ·obtain ⟨b,x,t,_,_,_,_,rfl,_⟩:=h;rfl
 ·have nd:=Gk.nd;have hu:=hr.units;obtain ⟨b,x,t,af,tr,tm,ps,rfl,hb,ht,q⟩:=h;refine ⟨_,(@xo _ _ _ (@wB _ _ _ (@xv _ _ _ _ (xm AG (hr.mono (by decide)) rfl T.Bk T.Bl T.Bm .nil ay (@xa _ _ _ (@xf _ _ _ _ _ (pv 1) (@xf _ _ _ _ _ xg (@xf _ _ _ _ _ (@xy _ _ _ _ _ _ _ _ g8 (xw (xx rfl) (by rfl) T.cC PySem.boot_len (@xa _ _ _ (@xf _ _ _ _ _ (@wE _ _ _ _ _ _ _ (wK rfl) (pv 0) xg (λ_ _=>rfl)) xp rfl))) xg) xp rfl) rfl) rfl)))))),?_⟩;refine (zr rfl (zr rfl (kE hb.book rfl ⟨tr,zr rfl ⟨.inr (cD.of hb.af),aO rfl rfl ⟨x,t,iD rfl ⟨ht,?_⟩⟩⟩⟩)));rw [zA];exact q
theorem HJ:aA ["book", "time"] ["book", "time"] (av Fp):=L2.bQ
theorem HM (T:Tx K mg a au aj ak ah aq)(B:br mg base):aV P w K mg base cR 1 a.CK a.Dz ["book", "time"] (Pj):=by
 refine T.Dc.ok HJ (λvs H Q E h=>?_) (λbZ A outer s H vs Q E hr h=>?_)
 ·obtain ⟨b,t,_,_,_,_,rfl,_⟩:=h;rfl
 ·have nd:=HJ.nd;have hu:=hr.units;obtain ⟨b,t,af,tr,tm,ps,rfl,hb,hn,q⟩:=h;refine ⟨_,(@xo _ _ _ (@wB _ _ _ (@xv _ _ _ _ (xw (xx rfl) (by rfl) T.cC PySem.boot_len (@xa _ _ _ (@xf _ _ _ _ _ (wr (own:=["meeting"]) (caps:=[1]) rfl (show aM ["meeting"] [1] ["book", "time"] (av Fp) _ from L2.iw) (@PM _ _ _ _ _ rfl (@wE _ _ _ _ _ _ _ (wK rfl) (pv 0) xg (λ_ _=>rfl))) (λ_ _ _ _=>(xk (i:=0) (show List.Nodup (["meeting", "time"]:List Str) from by decide +kernel) rfl (by first|exact .inl rfl|exact .inr rfl))) (λ_ _ _ _=>fS (@wA _ _ _ _ _ _ _ _ qa (@wE _ _ _ _ _ _ _ (wK rfl) (pv 0) xg (λ_ _=>rfl)) (pv 1) (aK _))) (λ_ _ _ _=>(pv 0))) xp rfl)))))),?_⟩;refine (zr rfl (kE hb.book rfl ⟨tm,rfl,⟨_,cD.of hb.meets⟩,?_⟩));refine QO (K:=K) (a:=tm) (xs:=ps.map λa=>V.ref a.1) (λi τ acc H5=>(∃ t0,τ=[t0,some (.int t)])/\acc.length=cnt ((ps.map (·.2)).take i) t/\acc.length<=i/\aB H H5)
   ?_ (by rw [zA];omega) ?_ ?_ ?_
  ·exact ⟨⟨_,rfl⟩,rfl,zD _,aB.refl _⟩
  ·rintro i τ acc H5 ⟨⟨t0,rfl⟩,_,le,sm⟩;exact ⟨le,cD.of (sm _ _ hb.meets)⟩
  ·rintro i x τ acc H5 C hx ⟨⟨t0,rfl⟩,ec,le,sm⟩ hC;obtain ⟨r,hr,rfl⟩:=wN hx;have fZ:=sm _ _ (hb.rows r (zB hr));have hm:(ps.map (·.2))[i]?=some r.2:=by rw [zS,hr];rfl
   refine (zr rfl (kE fZ rfl (zr rfl (aO rfl rfl (zr rfl (jN (λc=>(zr rfl (hC _ _ _ ?_))) (λc=>hC _ _ _ ?_)))))))
   ·exact ⟨⟨_,rfl⟩,by rw [uI hm,if_pos c,zE,ec];rfl,by rw [zE];exact Nat.succ_le_succ le,sm⟩
   ·exact ⟨⟨_,rfl⟩,by rw [uI hm,if_neg c,ec];rfl,by omega,sm⟩
  ·rintro τ acc H5 ⟨⟨t0,rfl⟩,ec,le,sm⟩ l hl;have e:(ps.map λa=>V.ref a.1).length=(ps.map (·.2)).length:=by simp
   rw [e,zn] at ec;refine ⟨l,zr rfl ⟨.inl (aL.of xb),?_⟩⟩;rw [ec];exact q _ (sm.trans (xi hl))
theorem KY:aA ["book", "told", "number", "one", "other", "when", "many"] ["book"] (av Kc):=L2.bQ
theorem K1 (T:Tx K mg a au aj ak ah aq)(B:br mg base):aV P w K mg base cR 1 a.Fk a.G1 ["book"] (Uk):=by
 refine T.Gf.ok KY (λvs H Q E h=>?_) (λbZ A outer s H vs Q E hr h=>?_)
 ·obtain ⟨b,_,_,_,_,rfl,_⟩:=h;rfl
 ·have nd:=KY.nd;have hu:=hr.units;obtain ⟨b,af,tr,tm,ps,rfl,hb,gd,q⟩:=h;refine ⟨_,(@xo _ _ _ (@xu _ _ _ _ _ _ (xq (i:=1) nd rfl (by first|exact .inl rfl|exact .inr rfl) (@wO _ _ _ _ wb)) (@xu _ _ _ _ _ _ (wt PassesOwn.never rfl (nG rfl rfl T.dw (@xa _ _ _ (@xf _ _ _ _ _ (@wE _ _ _ _ _ _ _ (wK rfl) (pv 0) xg (λ_ _=>rfl)) xp rfl))) (wJ (n:=2) rfl rfl (xl (xk (i:=2) nd rfl (by first|exact .inl rfl|exact .inr rfl)) (xl (wJ (n:=4) rfl rfl (xl (xk (i:=3) nd rfl (by first|exact .inl rfl|exact .inr rfl)) (xl (xk (i:=4) nd rfl (by first|exact .inl rfl|exact .inr rfl)) (xl (xk (i:=5) nd rfl (by first|exact .inl rfl|exact .inr rfl)) (xl (xk (i:=6) nd rfl (by first|exact .inl rfl|exact .inr rfl)) wF))))) wF))) (@xo _ _ _ (@xu _ _ _ _ _ _ (wS (gB zj ze zf wU (pv 1) (@xa _ _ _ (@xf _ _ _ _ _ (@wT _ _ _ _ _ (@xa _ _ _ (@xf _ _ _ _ _ (pv 2) (@xf _ _ _ _ _ (pv 3) (@xf _ _ _ _ _ (pv 4) (@xf _ _ _ _ _ (pv 5) xp rfl) rfl) rfl) rfl))) xp rfl)))) (@wB _ _ _ (wS (gB zj ze zf wU (pv 1) (@xa _ _ _ (@xf _ _ _ _ _ (@wT _ _ _ _ _ (@xa _ _ _ (@xf _ _ _ _ _ (pv 2) (@xf _ _ _ _ _ (pv 4) (@xf _ _ _ _ _ (pv 3) (@xf _ _ _ _ _ (pv 5) xp rfl) rfl) rfl) rfl))) xp rfl)))))))) (@wB _ _ _ (@xv _ _ _ _ (pv 1)))))),?_⟩;have line:=eU;have l60:=gd.len;refine ⟨zb _,λl hl=>?_⟩;have mj:=hb.same (xi (o:=HO.lst []) hl);refine (zr rfl (kE mj.book rfl ⟨tm,rfl,⟨_,cD.of mj.meets⟩,?_⟩));refine Ou (K:=K) (a:=tm) (xs:=ps.map λa=>V.ref a.1) (λi σ H4=>(∃ v2 v3 v4 v5 v6,σ=[some (.ref b),some (.ref l),v2,v3,v4,v5,v6])/\aB H H4/\∃ ws:List (Addr×W4),H4 l=some (.lst (ws.map λa=>V.ref a.1))/\(∀ a∈ws,H4 a.1=some (.tup a.2.vs))/\ws.map (·.2)=dI (ps.map (·.2)) i/\ws.length=2 * i)
   ⟨⟨_,_,_,_,_,rfl⟩,xi hl,[],xb,(λ_ z=>nomatch z),rfl,rfl⟩ (λi σ H4 _ h4=>cD.of ((hb.same h4.2.1).meets)) ?_ ?_
  ·rintro i x q' σ H4 hx hq ⟨⟨v2,v3,v4,v5,v6,rfl⟩,sm,ws,h4,hr,ew,lw⟩;obtain ⟨r,Tw,rfl⟩:=wN hx;have hi:i < ps.length:=(zC.mp Tw).1;have hm:(ps.map (·.2))[i]?=some r.2:=by rw [zS,Tw];rfl
   obtain ⟨a1,a2,a3,a4,a5,_⟩:=gd.at (zB Tw);have Rb:=sm.trans (xi (o:=HO.tup [.int i,.ref r.1]) hq);have fZ:=(hb.same Rb).rows r (zB Tw);have h5:=(xi (o:=HO.tup [.int i,.ref r.1]) hq) _ _ h4;refine ⟨q',zr rfl ⟨cD.of xb,rfl,iD rfl (iD rfl (Nu fZ ⟨rfl,?_⟩))⟩⟩;refine (zr rfl ⟨.inl ⟨rfl,_,aL.of h5⟩,zr rfl (zr rfl (zr rfl (zr rfl ⟨by show 4<=sizeLine;omega,λt1 Tv=>⟨l,aO rfl rfl ⟨xi Tv _ _ h5,by rw [zA];omega,?_⟩⟩⟩)))⟩);have n1:t1≠l:=(xh h5 Tv).symm;refine (zr rfl ⟨.inl ⟨rfl,_,aL.of xb⟩,zr rfl (zr rfl (zr rfl (zr rfl ⟨by show 4<=sizeLine;omega,λt2 pB=>⟨l,aO rfl rfl ⟨xi pB _ _ xb,by rw [zE,zA];show ws.length + 1 < sizeLine;omega,?_⟩⟩⟩)))⟩);have n2:t2≠l:=λz=>by rw [z,xb] at pB;cases pB
   have n12:t1≠t2:=λz=>by rw [<-z,xj n1,xb] at pB;cases pB
   have e1:(r.2.lo.toNat:Int)=r.2.lo:=yu a1;have e2:(r.2.hi.toNat:Int)=r.2.hi:=yu (by omega);have V6:aB H (upd (upd (upd (upd (upd H4 q' (.tup [.int i,.ref r.1])) t1 (.tup [.int i,.int r.2.lo,.int r.2.hi,.int r.2.t])) l (.lst ((ws.map λa=>V.ref a.1)++[.ref t1]))) t2 (.tup [.int i,.int r.2.hi,.int r.2.lo,.int r.2.t])) l (.lst ((ws.map λa=>V.ref a.1)++[.ref t1]++[.ref t2]))):=
    aB.put hl ((aB.put hl (Rb.trans (xi Tv))).trans (xi pB))
   refine ⟨⟨_,_,_,_,_,rfl⟩,V6,ws++[(t1,⟨i,⟨r.2.lo.toNat,r.2.hi.toNat,r.2.t⟩⟩),(t2,⟨i,⟨r.2.hi.toNat,r.2.lo.toNat,r.2.t⟩⟩)],?_,λa ha=>?_,?_,?_⟩
   ·rw [xb,zI,xJ];rfl
   ·rcases zT.mp ha with h | h
    ·have:=hr a h;have na:a.1≠l:=cT this h4 (by intro z;cases z);have b1:=xi (o:=HO.tup [.int i,.ref r.1]) hq _ _ this;have b2:=xi (o:=HO.tup [.int i,.int r.2.lo,.int r.2.hi,.int r.2.t]) Tv _ _ b1;rw [xj na];exact xi pB _ _ (by rw [xj na];exact b2)
    ·simp only [zH,yl,or_false] at h;rcases h with rfl | rfl
     ·rw [xj n1];refine xi pB _ _ ?_;rw [xj n1,xb];show _=some (HO.tup [.int i,.int (r.2.lo.toNat:Int),.int (r.2.hi.toNat:Int),.int r.2.t]);rw [e1,e2]
     ·rw [xj n2,xb];show _=some (HO.tup [.int i,.int (r.2.hi.toNat:Int),.int (r.2.lo.toNat:Int),.int r.2.t]);rw [e1,e2]
   ·rw [zI,ew,i8 hm];rfl
   ·rw [zE,lw];show 2 * i + 2=_;omega
  ·rintro σ H4 ⟨⟨v2,v3,v4,v5,v6,rfl⟩,sm,ws,h4,hr,ew,lw⟩;rw [zA] at ew;exact (zr rfl (q l ws _ hl sm h4 hr ew))
theorem G5:aA ["book", "number", "walker", "one", "other", "when", "many"] ["book", "number", "walker"] (av FT):=L2.bQ
theorem JA (T:Tx K mg a au aj ak ah aq)(B:br mg base):aV P w K mg base cR 1 a.BQ a.CW ["book", "number", "walker"] (NL):=by
 refine T.Ck.ok G5 (λvs H Q E h=>?_) (λbZ A outer s H vs Q E hr h=>?_)
 ·obtain ⟨b,k,v,_,_,_,_,_,rfl,_⟩:=h;rfl
 ·have nd:=G5.nd;have hu:=hr.units;obtain ⟨b,k,v,af,tr,tm,ps,m,rfl,hb,hm,q⟩:=h;refine ⟨_,(@xo _ _ _ (@xu _ _ _ _ _ _ (wa (@wE _ _ _ _ _ _ _ (wK rfl) (@wE _ _ _ _ _ _ _ (wK rfl) (pv 0) xg (λ_ _=>rfl)) (pv 1) (λ_ _=>rfl)) (wJ (n:=4) rfl rfl (xl (xk (i:=3) nd rfl (by first|exact .inl rfl|exact .inr rfl)) (xl (xk (i:=4) nd rfl (by first|exact .inl rfl|exact .inr rfl)) (xl (xk (i:=5) nd rfl (by first|exact .inl rfl|exact .inr rfl)) (xl (xk (i:=6) nd rfl (by first|exact .inl rfl|exact .inr rfl)) wF)))))) (@wB _ _ _ (@xv _ _ _ _ (@jF _ _ _ _ _ _ _ _ (@wA _ _ _ _ _ _ _ _ eO (pv 2) (pv 3) (aK _)) (pv 4) (pv 3)))))),?_⟩;have hk:k < ps.length:=by
   have:=(zC.mp hm).1;simpa using this
  have em:ps[k].2=m:=by
   rw [zS,zL hk] at hm;exact Option.some.inj hm
  have fZ:=hb.rows _ (zh hk);rw [em] at fZ;refine (zr rfl (kE hb.book rfl (zr rfl (kE hb.meets (wI (v:=V.ref ps[k].1) (by simp [hk])) (Nu fZ ?_)))));refine (zr rfl (zr rfl ⟨rfl,zr rfl (jN (λc=>?_) (λc=>?_))⟩))
  ·rw [if_pos (V.int.inj c)] at q;exact (zr rfl q)
  ·rw [if_neg λz=>c (by rw [z])] at q;exact (zr rfl q)
theorem G7:aA ["book", "walker", "number"] ["book", "walker", "number"] (av Eb):=L2.bQ
theorem JC (T:Tx K mg a au aj ak ah aq)(B:br mg base):aV P w K mg base cR 1 a.BS a.CZ ["book", "walker", "number"] (Uw):=by
 refine T.Cm.ok G7 (λvs H Q E h=>?_) (λbZ A outer s H vs Q E hr h=>?_)
 ·obtain ⟨b,k,x,_,_,_,_,rfl,_⟩:=h;rfl
 ·have nd:=G7.nd;have hu:=hr.units;obtain ⟨b,k,x,af,tr,tm,ps,rfl,hb,hn,q⟩:=h;refine ⟨_,(@xo _ _ _ (@wB _ _ _ (@xv _ _ _ _ (wr (own:=["other"]) (caps:=[2,1]) rfl (show aM ["other"] [2,1] ["book", "walker", "number"] (av Eb) _ from L2.iw) (wg rfl T.cN (@xa _ _ _ (@xf _ _ _ _ _ (xw (xx rfl) (by rfl) T.cC PySem.boot_len (@xa _ _ _ (@xf _ _ _ _ _ (@wE _ _ _ _ _ _ _ (wK rfl) (pv 0) xg (λ_ _=>rfl)) xp rfl))) xp rfl))) (λ_ _ _ _=>(xk (i:=0) (show List.Nodup (["other", "number", "walker"]:List Str) from by decide +kernel) rfl (by first|exact .inl rfl|exact .inr rfl))) (λ_ _ _ _=>cX) (λ_ _ _ _=>(@jF _ _ _ _ _ _ _ _ (@wA _ _ _ _ _ _ _ _ eO (pv 0) (pv 2) (aK _)) (pv 1) je)))))),?_⟩;refine (zr rfl (kE hb.book rfl ⟨tr,zr rfl ⟨.inr (cD.of hb.af),zr rfl ⟨by rw [zA];omega,by rw [zA];omega,?_⟩⟩⟩));refine gj (lo:=0) (m:=(af.map V.int).length) (λi τ acc H5=>(∃ t0,τ=[t0,some (.int x),some (.int k)])/\acc=(rep i (aI k x)).map oV/\H5=H) ?_ (by rw [zA];omega) ?_ ?_ ?_
  ·exact ⟨⟨_,rfl⟩,rfl,rfl⟩
  ·rintro i τ acc H5 ⟨⟨t0,rfl⟩,rfl,rfl⟩;rw [zA,jC];exact zD _
  ·rintro i τ acc H5 C hi ⟨⟨t0,rfl⟩,rfl,rfl⟩ hC;have snoc:∀ v,oV (aI k x i)=v->(rep i (aI k x)).map oV++[v]=(rep (i + 1) (aI k x)).map oV:=λv e=>by
    unfold rep;rw [xH,zI,zI,<- e];rfl
   refine (zr rfl (zr rfl ⟨rfl,zr rfl (jN (λc=>(zr rfl (hC _ _ _ ⟨⟨_,rfl⟩,snoc _ ?_,rfl⟩))) (λc=>hC _ _ _ ⟨⟨_,rfl⟩,snoc _ ?_,rfl⟩))⟩))
   ·have:i=k:=by have:=V.int.inj c;omega
    unfold aI;rw [if_pos this];rfl
   ·have:i≠k:=λz=>c (by rw [z];simp);unfold aI;rw [if_neg this];rfl
  ·rintro τ acc H5 ⟨⟨t0,rfl⟩,rfl,rfl⟩ l hl;rw [zA];exact q l _ hl (xi hl) xb
theorem Ey:aA ["book", "meeting"] ["book", "meeting"] (av DB):=L2.bQ
theorem EA (T:Tx K mg a au aj ak ah aq)(B:br mg base):aV P w K mg base (vc P w) 4 a.AK a.Bi ["book", "meeting"] (RJ a.Bo):=by
 have FH:=@EW P w _ _ base _ _ _ _ _ _ T B;refine T.A2.okE Ey (λvs H Q E h=>?_) (λbZ A outer s H vs Q E hr h=>?_)
 ·obtain ⟨_,_,_,_,_,_,_,rfl,_⟩:=h;rfl
 ·have nd:=Ey.nd;have hu:=hr.units;obtain ⟨b,x,t,af,tr,tm,ps,rfl,hb,ht,q1,q2⟩:=h;refine ⟨_,(@xo _ _ _ (@wB _ _ _ (@wG _ _ _ _ _ _ _ _ (@wq _ _ _ _ (wd (xm FH (hr.mono (by decide)) rfl T.Fw T.Fy T.FA .nil ay (@xa _ _ _ (@xf _ _ _ _ _ (pv 0) (@xf _ _ _ _ _ (pv 1) xp rfl) rfl))))) (@xo _ _ _ (@wB _ _ _ (gW rfl rfl rfl rfl rfl T.JM T.Jz))) wC))),?_⟩;refine (zr rfl (zr rfl (QI b x t af tr tm ps ⟨rfl,hb,ht,zr rfl ?_⟩)));cases c:eX 0 ((ps.length:Int) - 1) x with
  | true=>exact aE rfl (q1 c)
  | false=>exact bH rfl (q2 c)
theorem Hu:aA ["book", "meeting", "rooms", "meetings"] ["book", "meeting"] (av Fo):=L2.bQ
theorem F3 (T:Tx K mg a au aj ak ah aq)(B:br mg base):aV P w K mg base cR 5 a.CF a.Dv ["book", "meeting"] (NJ a.tP cg):=by
 have Fm:=@Gu P w _ _ base _ _ _ _ _ _ T B;have DF:=@EA P w _ _ base _ _ _ _ _ _ T B;refine T.C8.ok Hu (λvs H Q E h=>?_) (λbZ A outer s H vs Q E hr h=>?_)
 ·obtain ⟨_,_,_,_,_,_,rfl,_⟩:=h;rfl
 ·have nd:=Hu.nd;have hu:=hr.units;obtain ⟨b,n,af,tr,tm,ps,rfl,hb,hn,nq,pA,sJ,gd,mt,q⟩:=h;refine ⟨_,(@xo _ _ _ (@xu _ _ _ _ _ _ (wS (xm (E:=E0) DF (hr.mono (by decide)) rfl T.EZ T.E6 T.E8 .nil Ti (@xa _ _ _ (@xf _ _ _ _ _ (pv 0) (@xf _ _ _ _ _ (pv 1) xp rfl) rfl)))) (@xu _ _ _ _ _ _ (wa (pv 0) (wJ (n:=2) rfl rfl (xl (xk (i:=2) nd rfl (by first|exact .inl rfl|exact .inr rfl)) (xl (xk (i:=3) nd rfl (by first|exact .inl rfl|exact .inr rfl)) wF)))) (@wB _ _ _ (@xv _ _ _ _ (xm (E:=E0) Fm (hr.mono (by decide)) rfl T.He T.Hg T.Hi .nil Ti (@xa _ _ _ (@xf _ _ _ _ _ (wz (dh rfl) (by rfl) T.ji yK (@xa _ _ _ (@xf _ _ _ _ _ (pv 2) xp rfl))) (@xf _ _ _ _ _ (wr (own:=["number", "row"]) (caps:=[1]) rfl (show aM ["number", "row"] [1] ["book", "meeting", "rooms", "meetings"] (av Fo) _ from L2.iw) (nG rfl rfl T.dw (@xa _ _ _ (@xf _ _ _ _ _ (pv 3) xp rfl))) (λ_ _ _ _=>(wJ (n:=2) rfl rfl (xl (xk (i:=0) (show List.Nodup (["number", "row", "meeting"]:List Str) from by decide +kernel) rfl (by first|exact .inl rfl|exact .inr rfl)) (xl (xk (i:=1) (show List.Nodup (["number", "row", "meeting"]:List Str) from by decide +kernel) rfl (by first|exact .inl rfl|exact .inr rfl)) wF)))) (λ_ _ _ _=>fS (@wA _ _ _ _ _ _ _ _ nH (pv 0) (pv 2) (aK _))) (λ_ _ _ _=>(pv 1))) xp rfl) rfl)))))))),?_⟩;have line:=eU;have MZ:=gd.len;have yes:eX 0 ((ps.length:Int) - 1) (.int (n:Int))=true:=by
   have h1:(0:Int)<=n:=by omega
   have h2:(n:Int)<=(ps.length:Int) - 1:=by omega
   simp [eX,h1,h2]
  refine (zr rfl (zr rfl ⟨b,.int (n:Int),Za ("int") af tr tm ps ⟨rfl,hb,rfl,λ_=>?_,λz=>by rw [yes] at z;cases z⟩⟩));refine (zr rfl (Rr hb.book ?_));refine (zr rfl ⟨tr,zr rfl ⟨.inr (cD.of hb.af),λlr Vm=>?_⟩⟩);have s1:=xi (o:=HO.lst (af.map V.int)) Vm;have h1:upd H lr (HO.lst (af.map V.int)) lr=some (.lst (af.map V.int)):=xb;generalize upd H lr (HO.lst (af.map V.int))=H1 at *;have mj:=hb.same s1;have t6:=L2.MT.same mt s1;refine (zr rfl ⟨tm,rfl,⟨_,cD.of mj.meets⟩,?_⟩);refine oE (K:=K) (a:=tm) (xs:=ps.map λa=>V.ref a.1) (λi τ acc H5=>(∃ t0 t1,τ=[t0,t1,some (.int (n:Int))])/\acc=((ps.take i).eraseIdx n).map (λa=>V.ref a.1)/\aB H1 H5) ⟨⟨_,_,rfl⟩,rfl,aB.refl _⟩ (by rw [zA];omega) ?_ ?_ ?_
  ·rintro i τ acc H5 ⟨⟨t0,t1,rfl⟩,rfl,sm⟩;exact ⟨by rw [zA];exact yB (List.length_eraseIdx_le _ _) (by rw [zZ];exact Nat.min_le_left _ _),cD.of (sm _ _ mj.meets)⟩
  ·rintro i x k τ acc H5 C hx hk ⟨⟨t0,t1,rfl⟩,rfl,sm⟩ hC;obtain ⟨r,hr,rfl⟩:=wN hx;refine (Rr xb ?_);refine (zr rfl (zr rfl ⟨rfl,zr rfl ?_⟩));by_cases c:i=n
   ·subst c;exact aE (by simp) (hC _ _ _ ⟨⟨_,_,rfl⟩,by rw [pG hr],sm.trans (xi hk)⟩)
   ·refine bH (by simp;omega) ?_;exact (zr rfl (hC _ _ _ ⟨⟨_,_,rfl⟩,by rw [lR hr c,zI];rfl,sm.trans (xi hk)⟩))
  ·rintro τ acc H5 ⟨⟨t0,t1,rfl⟩,rfl,sm⟩ lc lD;rw [zA,zn];have s2:=sm.trans (xi (o:=HO.lst ((ps.eraseIdx n).map λa=>V.ref a.1)) lD);have gf:Good af.length ((ps.eraseIdx n).map (·.2)):=gd.sub ((yP ps n).map _);refine .inl ⟨lr,lc,af,ps.eraseIdx n,rfl,s2 _ _ h1,nq,pA,sJ,⟨xb,λx hx=>s2 _ _ (mj.rows x ((yP ps n).subset hx))⟩,gf.raw,L2.MT.same t6 s2,λb' lY lZ fF H' b8 US kM Vz Tf=>?_⟩;refine q b' lY lZ fF H' (λx u n e=>b8 x u n (s2 _ _ (s1 _ _ e))) US kM ?_;have e2:(ps.eraseIdx n).map (λa=>a.2.norm)=(ps.eraseIdx n).map (·.2):=by
    have:=gf.norm;rw [z4] at this;exact this
   rw [e2] at Tf;rw [Vz.eq gf Tf,Ov]
theorem G6:aA ["book", "meeting", "when", "rooms", "meetings", "changed", "one", "other", "ahead", "many"] ["book", "meeting", "when"] (av FU):=L2.bQ
theorem JB (T:Tx K mg a au aj ak ah aq)(B:br mg base):aV P w K mg base (vc P w) 5 a.BR a.CY ["book", "meeting", "when"] (Pd a.Bo a.AJ a.tP cg):=by
 have Fm:=@Gu P w _ _ base _ _ _ _ _ _ T B;have DF:=@EA P w _ _ base _ _ _ _ _ _ T B;refine T.Cl.okE G6 (λvs H Q E h=>?_) (λbZ A outer s H vs Q E hr h=>?_)
 ·obtain ⟨_,_,_,_,_,_,_,_,_,rfl,_⟩:=h;rfl
 ·have nd:=G6.nd;have hu:=hr.units;obtain ⟨b,x,y,tx,ty,af,tr,tm,ps,rfl,hb,nq,pA,sJ,gd,hx,hy,alt⟩:=h;refine ⟨_,(@xo _ _ _ (@xu _ _ _ _ _ _ (wS (xm (E:=E) DF (hr.mono (by decide)) rfl T.EZ T.E6 T.E8 .nil (MR rfl rfl rfl (λ_ _ z=>z)) (@xa _ _ _ (@xf _ _ _ _ _ (pv 0) (@xf _ _ _ _ _ (pv 1) xp rfl) rfl)))) (@xu _ _ _ _ _ _ (PS.rE (wa (pv 0) (wJ (n:=2) rfl rfl (xl (xk (i:=3) nd rfl (by first|exact .inl rfl|exact .inr rfl)) (xl (xk (i:=4) nd rfl (by first|exact .inl rfl|exact .inr rfl)) wF))))) (@xu _ _ _ _ _ _ (PS.rE (xq (i:=5) nd rfl (by first|exact .inl rfl|exact .inr rfl) (wz (dh rfl) (by rfl) T.ji yK (@xa _ _ _ (@xf _ _ _ _ _ (pv 4) xp rfl))))) (@xu _ _ _ _ _ _ (PS.rE (wa (@wE _ _ _ _ _ _ _ (wD rfl) (pv 5) (pv 1) (λ_ _=>rfl)) (wJ (n:=4) rfl rfl (xl (xk (i:=6) nd rfl (by first|exact .inl rfl|exact .inr rfl)) (xl (xk (i:=7) nd rfl (by first|exact .inl rfl|exact .inr rfl)) (xl (xk (i:=8) nd rfl (by first|exact .inl rfl|exact .inr rfl)) (xl (xk (i:=9) nd rfl (by first|exact .inl rfl|exact .inr rfl)) wF))))))) (@xu _ _ _ _ _ _ (PS.rE (wa (@wT _ _ _ _ _ (@xa _ _ _ (@xf _ _ _ _ _ (pv 6) (@xf _ _ _ _ _ (pv 7) (@xf _ _ _ _ _ (pv 2) (@xf _ _ _ _ _ (pv 9) xp rfl) rfl) rfl) rfl))) (vO (pv 5) (pv 1) set_list))) (@wB _ _ _ (@xv _ _ _ _ (xm (E:=E) Fm (hr.mono (by decide)) rfl T.He T.Hg T.Hi .nil (MR rfl rfl rfl (λ_ _ z=>z)) (@xa _ _ _ (@xf _ _ _ _ _ (wz (dh rfl) (by rfl) T.ji yK (@xa _ _ _ (@xf _ _ _ _ _ (pv 3) xp rfl))) (@xf _ _ _ _ _ (pv 5) xp rfl) rfl))))))))))),?_⟩;have line:=eU;have MZ:=gd.len;by_cases cn:eX 0 ((ps.length:Int) - 1) x=false
  ·refine (zr rfl (zr rfl (QI b x tx af tr tm ps ⟨rfl,hb,hx,(λz=>by rw [cn] at z;cases z),λ_=>?_⟩)));rcases alt with ⟨_,q⟩ | ⟨n,m,rfl,hn,_⟩ | ⟨n,m,w,rfl,hn,_⟩ | ⟨n,m,w,rfl,hn,_⟩
   ·exact q
   all_goals
    exfalso;have:=(zC.mp hn).1;rw [zA] at this;have h1:(0:Int)<=n:=by omega
    have h2:(n:Int)<=(ps.length:Int) - 1:=by omega
    simp [eX,h1,h2] at cn
  obtain ⟨n,m,rfl,hn,alt⟩:∃ n:Nat,∃ m,x=.int (n:Int)/\(ps.map (·.2))[n]?=some m/\((eX 1 1000000000 y=false/\∀ H',aB H H'->E (.ref a.AJ) none H')\/(∃ w,y=.int w/\1<=w/\w<=1000000000/\¬ ((ps.map (·.2)).set n (gH w m)).Pairwise Ro/\∀ H',aB H H'->E (.ref a.AJ) none H')\/(∃ w,y=.int w/\1<=w/\w<=1000000000/\((ps.map (·.2)).set n (gH w m)).Pairwise Ro/\MT a.tP cg dS H/\∀ b' lY lZ fF H',bY a.tP H H'->MT a.tP cg dS H'->aN H' b' af lY lZ fF->Good af.length (fF.map (·.2))->(fF.map (·.2)).Perm ((ps.map (·.2)).set n (gH w m))->Q (.ref b') H')):=by
   rcases alt with ⟨z,_⟩ | ⟨n,m,rfl,hn,h⟩ | ⟨n,m,w,rfl,hn,rfl,h⟩ | ⟨n,m,w,rfl,hn,rfl,h⟩
   ·exact absurd z cn
   ·exact ⟨n,m,rfl,hn,.inl h⟩
   ·exact ⟨n,m,rfl,hn,.inr (.inl ⟨w,rfl,h⟩)⟩
   ·exact ⟨n,m,rfl,hn,.inr (.inr ⟨w,rfl,h⟩)⟩
  have nl:n < ps.length:=by have:=(zC.mp hn).1;rwa [zA] at this
  obtain ⟨r,hr,er⟩:∃ r,ps[n]?=some r/\r.2=m:=by
   rw [zS] at hn;cases h:ps[n]? with
   | none=>rw [h] at hn;cases hn
   | some r=>rw [h] at hn;exact ⟨r,rfl,Option.some.inj hn⟩
  subst er;refine (zr rfl (zr rfl ⟨b,.int (n:Int),Za tx af tr tm ps ⟨rfl,hb,hx,λ_=>?_,λz=>absurd z cn⟩⟩));refine (zr rfl (Rr hb.book ?_));refine (zr rfl ⟨tm,zr rfl ⟨.inr (cD.of hb.meets),λlc lD=>?_⟩⟩);have s1:=xi (o:=HO.lst (ps.map λa=>V.ref a.1)) lD;have k1:upd H lc (HO.lst (ps.map λa=>V.ref a.1)) lc=some (.lst (ps.map λa=>V.ref a.1)):=xb;generalize upd H lc (HO.lst (ps.map λa=>V.ref a.1))=H1 at s1 k1 ⊢;have mj:=hb.same s1;have fZ:H1 r.1=some (.tup [.int r.2.lo,.int r.2.hi,.int r.2.t,.int r.2.m]):=mj.rows r (zB hr);refine (zr rfl (zr rfl (lC k1 (wI (v:=V.ref r.1) (by rw [zS,hr];rfl)) (Nu fZ ?_))));refine (zr rfl (zr rfl (zr rfl (zr rfl ⟨by show 4<=sizeLine;omega,λt2 pB=>?_⟩))));have s2:=xi (o:=HO.tup [V.int r.2.lo,V.int r.2.hi,y,V.int r.2.m]) pB;have k2:upd H1 t2 (HO.tup [V.int r.2.lo,V.int r.2.hi,y,V.int r.2.m]) t2=some (.tup [V.int r.2.lo,V.int r.2.hi,y,V.int r.2.m]):=xb;have Z3:=s2 _ _ k1;generalize upd H1 t2 (HO.tup [V.int r.2.lo,V.int r.2.hi,y,V.int r.2.m])=H2 at s2 k2 Z3 ⊢;have ixn:Qm (ps.map λa=>V.ref a.1).length (n:Int)=some n:=by
   rw [zA];unfold Qm;rw [if_pos (by omega),if_pos (by omega),zy]
  refine (zr rfl (zr rfl ⟨lc,_,aO rfl rfl ⟨Z3,ixn,?_⟩⟩));have s3:aB H (upd H2 lc (HO.lst ((ps.map λa=>V.ref a.1).set n (V.ref t2)))):=aB.put lD (s1.trans s2);have nt:t2≠lc:=λz=>by rw [z,k1] at pB;cases pB
  have k3:upd H2 lc (HO.lst ((ps.map λa=>V.ref a.1).set n (V.ref t2))) lc=some (.lst ((ps.map λa=>V.ref a.1).set n (V.ref t2))):=xb;have k32:upd H2 lc (HO.lst ((ps.map λa=>V.ref a.1).set n (V.ref t2))) t2=some (.tup [V.int r.2.lo,V.int r.2.hi,y,V.int r.2.m]):=by rw [xj nt];exact k2
  generalize upd H2 lc (HO.lst ((ps.map λa=>V.ref a.1).set n (V.ref t2)))=H3 at s3 k3 k32 ⊢;clear fZ k2 Z3 k1 s1 s2 pB lD ixn mj;have SG:=hb.same s3;refine (zr rfl ⟨tr,zr rfl ⟨.inr (cD.of SG.af),λlr Vm=>?_⟩⟩);have s4:=xi (o:=HO.lst (af.map V.int)) Vm;have k4:upd H3 lr (HO.lst (af.map V.int)) lr=some (.lst (af.map V.int)):=xb;have Z2:=s4 _ _ k3;have Su:=s4 _ _ k32;generalize upd H3 lr (HO.lst (af.map V.int))=H4 at s4 k4 Z2 Su ⊢;have V7:=s3.trans s4;have XW:=hb.same V7;have gr:=gd.each r.2 (zP.mpr ⟨r,zB hr,rfl⟩);have UU:∀ (w:Int) (x:Addr×M4),x∈ps.set n (t2,gH w r.2)->x∈ps\/x=(t2,gH w r.2):=λw x hx=>List.mem_or_eq_of_mem_set hx;have raw:∀ w:Int,1<=w->w<=1000000000->VU af.length ((ps.set n (t2,gH w r.2)).map (·.2)):=λw w1 w9 y hy=>by
   obtain ⟨x,hx,rfl⟩:=zP.mp hy;rcases UU w x hx with h | rfl
   ·have:=gd.each x.2 (zP.mpr ⟨x,h,rfl⟩);exact ⟨this.1,by omega,by omega,this.2.2.1,by omega,this.2.2.2.1,this.2.2.2.2.1,this.2.2.2.2.2.1,this.2.2.2.2.2.2⟩
   ·exact ⟨gr.1,by show r.2.lo < _;omega,by show 0<=r.2.hi;omega,gr.2.2.1,by show r.2.lo≠r.2.hi;omega,w1,w9,gr.2.2.2.2.2.1,gr.2.2.2.2.2.2⟩
  have lis:∀ w:Int,y=.int w->jn H4 lc (ps.set n (t2,gH w r.2)):=λw ey=>⟨by rw [Z2,List.map_set],λx hx=>by
   rcases UU w x hx with h | rfl
   ·exact XW.rows x h
   ·rw [ey] at Su;exact Su⟩
  have VF:∀ w:Int,(ps.set n (t2,gH w r.2)).map (·.2)=(ps.map (·.2)).set n (gH w r.2):=λw=>by rw [List.map_set]
  refine (zr rfl ?_);rcases alt with ⟨by_,q⟩ | ⟨w,rfl,w1,w9,no,q⟩ | ⟨w,rfl,w1,w9,yes,mt,q⟩
  ·refine .inr (.inl ⟨lr,lc,rfl,⟨af,(ps.map λa=>(a.1,su.mk a.2.lo a.2.hi (.int a.2.t) a.2.m)).set n (t2,su.mk r.2.lo r.2.hi y r.2.m),k4,nq,pA,sJ,?_,?_,λx hx=>?_,?_⟩,λH' s'=>q H' (V7.trans s')⟩)
   ·rw [Z2,List.map_set,z4];rfl
   ·rw [yc,zA];omega
   ·rcases List.mem_or_eq_of_mem_set hx with h | rfl
    ·obtain ⟨z,hz,rfl⟩:=zP.mp h;have:=gd.each z.2 (zP.mpr ⟨z,hz,rfl⟩);exact ⟨XW.rows z hz,⟨this.1,by show z.2.lo < _;omega,by show 0<=z.2.hi;omega,this.2.2.1,by show z.2.lo≠z.2.hi;omega,this.2.2.2.2.2.1,this.2.2.2.2.2.2⟩, "int", rfl⟩
    ·exact ⟨Su,⟨gr.1,by show r.2.lo < _;omega,by show 0<=r.2.hi;omega,gr.2.2.1,by show r.2.lo≠r.2.hi;omega,gr.2.2.2.2.2.1,gr.2.2.2.2.2.2⟩,ty,sQ V7 hy⟩
   ·exact ⟨(t2,su.mk r.2.lo r.2.hi y r.2.m),List.mem_set (by rw [zA];exact nl) _,by_⟩
  ·exact .inr (.inr ⟨lr,lc,af,ps.set n (t2,gH w r.2),rfl,k4,nq,pA,sJ,lis w rfl,by rw [yc];omega,raw w w1 w9,by rw [VF];exact no,λH' s'=>q H' (V7.trans s')⟩)
  ·refine .inl ⟨lr,lc,af,ps.set n (t2,gH w r.2),rfl,k4,nq,pA,sJ,lis w rfl,⟨by rw [zA,yc];omega,raw w w1 w9,by rw [VF];exact yes⟩,L2.MT.same mt V7,λb' lY lZ fF H' b8 US kM Vz Tf=>?_⟩;refine q b' lY lZ fF H' (λx u n z=>b8 x u n (V7 _ _ z)) US kM Vz ?_;rw [<-VF];have e2:(ps.set n (t2,gH w r.2)).map (λa=>a.2.norm)=(ps.set n (t2,gH w r.2)).map (·.2):=by
    refine yM λx hx=>?_;have:0<=x.2.lo/\x.2.lo < x.2.hi:=by
     rcases UU w x hx with h | rfl
     ·have:=gd.each x.2 (zP.mpr ⟨x,h,rfl⟩);exact ⟨this.1,this.2.1⟩
     ·exact ⟨gr.1,gr.2.1⟩
    unfold M4.norm;rw [show min x.2.lo x.2.hi=x.2.lo by omega,show max x.2.lo x.2.hi=x.2.hi by omega]
   rw [<-e2];exact Tf
theorem DA:aA ["self", "many"] ["self", "many"] (av wo):=L2.bQ
theorem F4 (T:Tx K mg a au aj ak ah aq)(B:br mg base):aV P w K mg base cR 1 a.Ai a.AM ["self", "many"] (RL a.Aa):=by
 refine T.At.ok DA (λvs H Q E h=>?_) (λbZ A outer s H vs Q E hr h=>?_)
 ·obtain ⟨_,_,_,rfl,_⟩:=h;rfl
 ·have nd:=DA.nd;have hu:=hr.units;obtain ⟨x,dx,n,rfl,hx,n3,q⟩:=h;refine ⟨_,(@xo _ _ _ (@xu _ _ _ _ _ _ (nC (pv 0) xg rfl) (@xu _ _ _ _ _ _ (nC (pv 0) (wr (own:=["point"]) (caps:=[]) rfl (show aM ["point"] [] ["self", "many"] (av wo) _ from L2.iw) (wg rfl T.cN (@xa _ _ _ (@xf _ _ _ _ _ (pv 1) xp rfl))) (λ_ _ _ _=>(xk (i:=0) (show List.Nodup (["point"]:List Str) from by decide +kernel) rfl (by first|exact .inl rfl|exact .inr rfl))) (λ_ _ _ _=>cX) (λ_ _ _ _=>(@wO _ _ _ _ wb))) rfl) (@xu _ _ _ _ _ _ (nC (pv 0) (@wO _ _ _ _ wb) rfl) (@wB _ _ _ (nC (pv 0) (@wO _ _ _ _ wb) rfl)))))),?_⟩;have line:8000<=sizeLine:=by rw [sizeLine_eq];decide
  refine (zr rfl ⟨x,_,dx,zr rfl ⟨hx,T.Ag,T.cu,by decide,?_⟩⟩);have b1:bY x H (upd H x (.ins a.Aa dx [("source", .int 0)])):=bY.set;have i1:upd H x (.ins a.Aa dx [("source", .int 0)]) x=some (.ins a.Aa dx [("source", .int 0)]):=xb;show lN _ _ _ _ (upd H x (.ins a.Aa dx [("source", .int 0)]));generalize upd H x (.ins a.Aa dx [("source", .int 0)])=H1 at b1 i1 ⊢;refine (zr rfl ⟨(n:Int),rfl,by omega,by omega,?_⟩);refine uG (lo:=0) (m:=n) (λi τ acc H5=>∃ rs:List Addr,(∃ t0,τ=[t0])/\acc=rs.map V.ref/\rs.length=i/\aB H1 H5/\rs.Nodup/\∀ r∈rs,H1 r=none/\H5 r=some (.lst [])) ⟨[],⟨_,rfl⟩,rfl,rfl,aB.refl _,.nil,λ_ h=>nomatch h⟩ (by omega) ?_ ?_ ?_
  ·rintro i τ acc H5 ⟨rs,_,rfl,rfl,_⟩;rw [zA];exact zD _
  ·rintro i τ acc H5 C hi ⟨rs,⟨t0,rfl⟩,rfl,rfl,s1,nd,hr⟩ hC;refine ⟨by show 0<=_;omega,λp hp=>?_⟩;refine hC _ _ _ ⟨rs++[p],⟨_,rfl⟩,by rw [zI];rfl,by rw [zE];rfl,s1.trans (xi hp),?_,λr Vi=>?_⟩
   ·exact List.nodup_append.mpr ⟨nd,zk.mpr ⟨by simp,.nil⟩,λb hb c hc=>by rw [zF.mp hc];exact xh (hr b hb).2 hp⟩
   ·rcases zT.mp Vi with h | h
    ·exact ⟨(hr r h).1,by rw [xj (xh (hr r h).2 hp)];exact (hr r h).2⟩
    ·rw [zF.mp h];exact ⟨s1.free hp,xb⟩
  ·rintro τ acc H5 ⟨rs,_,rfl,hl,s1,nd,hr⟩ lA hA;have s2:aB H5 (upd H5 lA (.lst (rs.map V.ref))):=xi hA;have a2:upd H5 lA (.lst (rs.map V.ref)) lA=some (.lst (rs.map V.ref)):=xb;have fA:=s1.free hA;have nA:lA ∉ rs:=λh=>xh (hr _ h).2 hA rfl;generalize upd H5 lA (.lst (rs.map V.ref))=H2 at s2 a2 ⊢;have hr2:∀ r∈rs,H2 r=some (.lst []):=λr h=>s2 _ _ (hr r h).2;have s2:=s1.trans s2;have i2:=s2 _ _ i1;have xA:lA≠x:=Ne.symm (xh i1 fA);have xr:∀ r∈rs,r≠x:=λr h=>Ne.symm (xh i1 (hr r h).1);refine (zr rfl ⟨x,_,dx,zr rfl ⟨i2,T.Ag,T.c8,by decide,?_⟩⟩);have b3:bY x H2 (upd H2 x (.ins a.Aa dx [("source", .int 0),("arcs", .ref lA)])):=bY.set;have i3:upd H2 x (.ins a.Aa dx [("source", .int 0),("arcs", .ref lA)]) x=some (.ins a.Aa dx [("source", .int 0),("arcs", .ref lA)]):=xb;show lN _ _ _ _ (upd H2 x (.ins a.Aa dx [("source", .int 0),("arcs", .ref lA)]));generalize upd H2 x _=H3 at b3 i3 ⊢;have a3:=b3 _ _ xA a2;have Sy:∀ r∈rs,H3 r=some (.lst []):=λr h=>b3 _ _ (xr r h) (hr2 r h);have c3:bY x H H3:=(b1.trans (aB.but s2)).trans b3;refine ⟨by show 0<=_;omega,λlE hE=>?_⟩;have s4:aB H3 (upd H3 lE (.lst [])):=xi hE;have e4:upd H3 lE (.lst []) lE=some (.lst []):=xb;generalize upd H3 lE _=H4 at s4 e4 ⊢;have xE:lE≠x:=Ne.symm (xh i3 hE);have nE:lE ∉ rs:=λh=>xh (Sy _ h) hE rfl;have AE:lA≠lE:=xh a3 hE;refine (zr rfl ⟨x,_,dx,zr rfl ⟨s4 _ _ i3,T.Ag,T.cL,by show 2 < 1000;decide,?_⟩⟩);have b5:bY x H4 (upd H4 x (.ins a.Aa dx [("source", .int 0),("arcs", .ref lA),("ends", .ref lE)])):=bY.set;have i5:upd H4 x (.ins a.Aa dx [("source", .int 0),("arcs", .ref lA),("ends", .ref lE)]) x=some (.ins a.Aa dx [("source", .int 0),("arcs", .ref lA),("ends", .ref lE)]):=xb;have ep:eZ "ends" (.ref lE) [("source", .int 0),("arcs", .ref lA)]=([("source", .int 0),("arcs", .ref lA),("ends", .ref lE)]:List (Str×V)):=by rw [eZ,if_neg (by decide),eZ,if_neg (by decide),eZ]
   rw [ep];generalize upd H4 x _=H6 at b5 i5 ⊢;have b6:bY x H3 H6:=bY.trans (aB.but s4) b5;refine ⟨by show 0<=_;omega,λlS hS=>?_⟩;have s7:aB H6 (upd H6 lS (.lst [])):=xi hS;have e7:upd H6 lS (.lst []) lS=some (.lst []):=xb;generalize upd H6 lS _=H7 at s7 e7 ⊢;have xS:lS≠x:=Ne.symm (xh i5 hS);have nS:lS ∉ rs:=λh=>xh (b6 _ _ (xr _ h) (Sy _ h)) hS rfl;have AS:lA≠lS:=xh (b6 _ _ xA a3) hS;have ES:lE≠lS:=xh (b5 _ _ xE e4) hS;have b7:bY x H6 (upd H7 x (.ins a.Aa dx [("source", .int 0),("arcs", .ref lA),("ends", .ref lE),("spare", .ref lS)])):=bY.trans (aB.but s7) bY.set;refine (zr rfl ⟨x,_,dx,zr rfl ⟨s7 _ _ i5,T.Ag,T.bR,by show 3 < 1000;decide,q lA lE lS rs _ (c3.trans (b6.trans b7)) ⟨⟨xb,b7 _ _ xA (b6 _ _ xA a3),λp r hp=>b7 _ _ (xr r (zB hp)) (b6 _ _ (xr r (zB hp)) (Sy r (zB hp))),b7 _ _ xE (b5 _ _ xE e4),by rw [xj xS];exact e7,?_⟩,hl,(λ_ h=>by cases h),⟨rfl,(λa h=>absurd h (by simp)),(λk x h=>by cases h)⟩,n3,by show 0<=3000;decide⟩ ?_⟩⟩)
   ·exact zk.mpr ⟨by simp [AE,AS,nA],zk.mpr ⟨by simp [ES,nE],zk.mpr ⟨nS,nd⟩⟩⟩
   ·intro b hb;rcases zH.mp hb with rfl | hb
    ·exact b1.free xA fA
    rcases zH.mp hb with rfl | hb
    ·exact c3.free xE hE
    rcases zH.mp hb with rfl | hb
    ·exact (c3.trans b6).free xS hS
    exact b1.free (xr b hb) (hr b hb).1
theorem FQ:aA ["self", "here", "there", "most", "number"] ["self", "here", "there", "most"] (av Ei):=L2.bQ
theorem Ip (T:Tx K mg a au aj ak ah aq)(B:br mg base):aV P w K mg base cR 1 a.Bc a.Cf ["self", "here", "there", "most"] (Uo a.Aa):=by
 refine T.Bd.ok FQ (λvs H Q E h=>?_) (λbZ A outer s H vs Q E hr h=>?_)
 ·obtain ⟨_,_,_,_,_,_,_,_,_,_,_,_,_,rfl,_⟩:=h;rfl
 ·have nd:=FQ.nd;have hu:=hr.units;obtain ⟨x,dx,lA,lE,lS,as,src,n,ts,sp,h0,t0,m0,rfl,st,hh,ht,hm,hl,q⟩:=h;refine ⟨_,(@xo _ _ _ (@xu _ _ _ _ _ _ (xq (i:=4) nd rfl (by first|exact .inl rfl|exact .inr rfl) (@xy _ _ _ _ _ _ _ _ qA (xw (xx rfl) (by rfl) T.cC PySem.boot_len (@xa _ _ _ (@xf _ _ _ _ _ (e8 (pv 0) rfl) xp rfl))) xg)) (@xu _ _ _ _ _ _ (wS (gB zj ze zf wU (@wE _ _ _ _ _ _ _ (wD rfl) (e8 (pv 0) rfl) (pv 1) (λ_ _=>rfl)) (@xa _ _ _ (@xf _ _ _ _ _ (@xy _ _ _ _ _ _ _ _ wW xg (pv 4)) xp rfl)))) (@xu _ _ _ _ _ _ (wS (gB zj ze zf wU (@wE _ _ _ _ _ _ _ (wD rfl) (e8 (pv 0) rfl) (pv 2) (λ_ _=>rfl)) (@xa _ _ _ (@xf _ _ _ _ _ (@xy _ _ _ _ _ _ _ _ wL (@xy _ _ _ _ _ _ _ _ wW xg (pv 4)) xg) xp rfl)))) (@xu _ _ _ _ _ _ (pY (pv 0) (@wO _ _ _ _ (@xa _ _ _ (@xf _ _ _ _ _ (pv 2) (@xf _ _ _ _ _ (pv 1) xp rfl) rfl))) Qo) (@xu _ _ _ _ _ _ (pY (pv 0) (@wO _ _ _ _ (@xa _ _ _ (@xf _ _ _ _ _ (pv 3) (@xf _ _ _ _ _ xg xp rfl) rfl))) Qo) (@wB _ _ _ (@xv _ _ _ _ (pv 4))))))))),?_⟩;have line:8000<=sizeLine:=by rw [sizeLine_eq];decide
  have NI:=st.raw;obtain ⟨lh,XG⟩:∃ l,as[h0]?=some l:=⟨_,zL (by rw [st.len];exact hh)⟩;obtain ⟨lt,fk⟩:∃ l,as[t0]?=some l:=⟨_,zL (by rw [st.len];exact ht)⟩;have e0:(((ck ts).map V.int).length:Int) / 2=(ts.length:Int):=by rw [zA,oz];omega
  have L8:=jm (ts:=ts) (p:=h0) ts.length;have L9:=jm (ts:=ts) (p:=t0) ts.length;refine (zr rfl ⟨x,_,dx,iD rfl ⟨NI.ins,T.Ag,T.cL,rfl,lE,zr rfl ⟨.inl (aL.of NI.ends),aO rfl rfl ⟨⟨by decide,by decide⟩,?_⟩⟩⟩⟩);show fL 4 (V.int (((((ck ts).map V.int).length:Nat):Int) / 2)) _ _ _;rw [e0];refine (zr rfl ⟨x,_,dx,iD rfl ⟨NI.ins,T.Ag,T.c8,rfl,zr rfl ⟨lA,_,_,V.ref lh,rfl,rfl,aL.of NI.lU,wI (by rw [zS,XG];rfl),.inl ⟨rfl,_,aL.of (NI.rws _ _ XG)⟩,zr rfl (aO rfl rfl ⟨.inl ⟨by decide,by decide⟩,lh,aO rfl rfl ⟨NI.rws _ _ XG,by rw [zA];omega,?_⟩⟩)⟩⟩⟩);have Mz:=NI.app (z:=2 * (ts.length:Int)) XG;have k1:bf (x::lE::lS::as) H (upd H lh (.lst ((bS ts h0 ts.length).map V.int++[V.int (2 * (ts.length:Int))]))):=bf.upd (.tail _ (.tail _ (.tail _ (zB XG))));generalize upd H lh _=H1 at Mz k1 ⊢;refine (zr rfl ⟨x,_,dx,iD rfl ⟨Mz.ins,T.Ag,T.c8,rfl,zr rfl ⟨lA,_,_,V.ref lt,rfl,rfl,aL.of Mz.lU,wI (by rw [zS,fk];rfl),.inl ⟨rfl,_,aL.of (Mz.rws _ _ fk)⟩,zr rfl (aO rfl rfl ⟨.inl ⟨by decide,by decide⟩,aO rfl rfl ⟨lt,aO rfl rfl ⟨Mz.rws _ _ fk,by rw [zA,zE];split <;> simp <;> omega,?_⟩⟩⟩)⟩⟩⟩);have sI:=Mz.app (z:=2 * (ts.length:Int) + 1) fk;have k2:bf (x::lE::lS::as) H1 (upd H1 lt (.lst ((bS ts t0 ts.length++if h0=t0 then [2 * (ts.length:Int)] else []).map V.int++[V.int (2 * (ts.length:Int) + 1)]))):=bf.upd (.tail _ (.tail _ (.tail _ (zB fk))));generalize upd H1 lt _=H2 at sI k2 ⊢;have k2:=k1.trans k2;refine (zr rfl ⟨x,_,dx,iD rfl ⟨sI.ins,T.Ag,T.cL,rfl,zr rfl (zr rfl ⟨by show 2<=_;omega,λb hb=>?_⟩)⟩⟩);have s3:aB H2 (upd H2 b (.lst [V.int (t0:Int),V.int (h0:Int)])):=xi hb;have b3:upd H2 b (.lst [V.int (t0:Int),V.int (h0:Int)]) b=some (.lst [V.int (t0:Int),V.int (h0:Int)]):=xb;generalize upd H2 b _=H3 at s3 b3 ⊢;have WK:=sI.same s3;have k3:=k2.trans (aB.uf s3);refine ⟨lE,b,aO rfl rfl ⟨WK.ends,b3,by rw [zA,oz];show _ + 2<=_;omega,?_⟩⟩;have sE:=WK.Zy (es':=ck ts++[(t0:Int),(h0:Int)]);have k4:bf (x::lE::lS::as) H3 (upd H3 lE (.lst ((ck ts++[(t0:Int),(h0:Int)]).map V.int))):=bf.upd (.tail _ (.head _));have e4:HO.lst ((ck ts).map V.int++[V.int (t0:Int),V.int (h0:Int)])=HO.lst ((ck ts++[(t0:Int),(h0:Int)]).map V.int):=by rw [zI];rfl
  rw [e4];generalize upd H3 lE _=H4 at sE k4 ⊢;have k4:=k3.trans k4;refine ⟨dx,_,sE.ins,by show 4 < 1000;decide,?_⟩;have gM:=sE.Uy (src':=src);have k5:bf (x::lE::lS::as) H4 (upd H4 x (.ins a.Aa dx [("source", .int src),("arcs", .ref lA),("ends", .ref lE),("spare", .ref lS)])):=bf.upd (.head _);show lN _ _ _ _ (upd H4 x (.ins a.Aa dx [("source", .int src),("arcs", .ref lA),("ends", .ref lE),("spare", .ref lS)]));generalize upd H4 x _=H5 at gM k5 ⊢;have k5:=k4.trans k5;refine (zr rfl ⟨x,_,dx,iD rfl ⟨gM.ins,T.Ag,T.bR,rfl,zr rfl ⟨by show 2<=_;omega,λc hc=>?_⟩⟩⟩);have s6:aB H5 (upd H5 c (.lst [V.int m0,V.int 0])):=xi hc;have b6:upd H5 c (.lst [V.int m0,V.int 0]) c=some (.lst [V.int m0,V.int 0]):=xb;generalize upd H5 c _=H6 at s6 b6 ⊢;have qT:=gM.same s6;have k6:=k5.trans (aB.uf s6);have ls:=st.snd.len;refine ⟨lS,c,aO rfl rfl ⟨qT.jc,b6,by rw [zA,ls];show _ + 2<=_;omega,?_⟩⟩;have NH:=qT.Uz (dM:=sp++[m0,0]);have k7:bf (x::lE::lS::as) H6 (upd H6 lS (.lst ((sp++[m0,0]).map V.int))):=bf.upd (.tail _ (.tail _ (.head _)));have e7:HO.lst (sp.map V.int++[V.int m0,V.int 0])=HO.lst ((sp++[m0,0]).map V.int):=by rw [zI];rfl
  rw [e7];generalize upd H6 lS _=H7 at NH k7 ⊢;have k7:=k6.trans k7;refine ⟨dx,_,NH.ins,by show 4 < 1000;decide,?_⟩;have My:=NH.Uy (src':=src);have k8:bf (x::lE::lS::as) H7 (upd H7 x (.ins a.Aa dx [("source", .int src),("arcs", .ref lA),("ends", .ref lE),("spare", .ref lS)])):=bf.upd (.head _);refine (zr rfl ?_);refine q _ (k7.trans k8) ⟨?_,st.len,?_,st.snd.snoc (x:=⟨h0,t0,m0⟩) hm,st.sz.1,by rw [zE];show _ + 1<=_;omega⟩
  ·have ef:(λp=>(bS ts p ts.length++if h0=p then [2 * (ts.length:Int)] else [])++if t0=p then [2 * (ts.length:Int) + 1] else [])=λp=>bS (ts++[(⟨h0,t0,m0⟩:bX)]) p (ts++[(⟨h0,t0,m0⟩:bX)]).length:=by
    funext p;rw [Mp,xJ];rfl
   rw [<-ef,uA];exact My
  ·intro t h;rcases zT.mp h with h | h
   ·exact st.Ry t h
   ·rw [zF.mp h];exact ⟨hh,ht⟩
theorem EL:aA ["self", "tie"] ["self", "tie"] (av DP):=L2.bQ
theorem HP (T:Tx K mg a au aj ak ah aq)(B:br mg base):aV P w K mg base cR 1 a.AT a.BK ["self", "tie"] (RE a.Aa):=by
 refine T.AW.ok EL (λvs H Q E h=>?_) (λbZ A outer s H vs Q E hr h=>?_)
 ·obtain ⟨_,_,_,_,_,_,_,_,_,_,_,rfl,_⟩:=h;rfl
 ·have nd:=EL.nd;have hu:=hr.units;obtain ⟨x,dx,lA,lE,lS,as,src,n,ts,sp,k,rfl,st,hk,q⟩:=h;refine ⟨_,(@xo _ _ _ (@wB _ _ _ (@xv _ _ _ _ (@wE _ _ _ _ _ _ _ (wD rfl) (jG rfl (pv 0) rfl) (@xy _ _ _ _ _ _ _ _ wL (@xy _ _ _ _ _ _ _ _ wW xg (pv 1)) xg) (λ_ _=>rfl))))),?_⟩;have line:8000<=sizeLine:=by rw [sizeLine_eq];decide
  have e1:(sp.map V.int)[2 * k + 1]?=some (V.int (bP sp (2 * k + 1))):=jg (jU (by rw [st.snd.len];omega));exact (zr rfl ⟨x,_,dx,iD rfl ⟨st.raw.ins,T.Ag,T.bR,rfl,zr rfl (aO rfl rfl ⟨.inl ⟨by decide,by decide⟩,aO rfl rfl (lC st.raw.jc (wI (j:=2 * k + 1) e1) q)⟩)⟩⟩)
theorem DI:aA ["self", "goal", "came", "points", "place", "point", "arc", "end"] ["self", "goal"] (av CP):=L2.bQ
theorem Gx (T:Tx K mg a au aj ak ah aq)(B:br mg base):aV P w K mg base cR 1 a.Ax a.AZ ["self", "goal"] (RM a.Aa):=by
 refine T.Ay.ok DI (λvs H Q E h=>?_) (λbZ A outer s H vs Q E hr h=>?_)
 ·obtain ⟨_,_,_,_,_,_,_,_,_,_,_,rfl,_⟩:=h;rfl
 ·have nd:=DI.nd;have hu:=hr.units;obtain ⟨x,dx,lA,lE,lS,as,src,n,ts,sp,g,rfl,st,hs,q⟩:=h;refine ⟨_,(@xo _ _ _ (@xu _ _ _ _ _ _ (xq (i:=2) nd rfl (by first|exact .inl rfl|exact .inr rfl) (Se (PL (e8 (pv 0) rfl) je R7) rfl rfl (by intro h;cases h) (by decide))) (@xu _ _ _ _ _ _ (xq (i:=3) nd rfl (by first|exact .inl rfl|exact .inr rfl) (@wO _ _ _ _ (@xa _ _ _ (@xf _ _ _ _ _ (e8 (pv 0) rfl) xp rfl)))) (@xu _ _ _ _ _ _ (xq (i:=4) nd rfl (by first|exact .inl rfl|exact .inr rfl) xg) (@xu _ _ _ _ _ _ (@jE _ _ _ _ _ _ PassesOwn.never (@PW.pt _ _ _ (@kr _ _ _ _ _ _ _ (@wA _ _ _ _ _ _ _ _ tO (pv 4) (xw (xx rfl) (by rfl) T.cC PySem.boot_len (@xa _ _ _ (@xf _ _ _ _ _ (pv 3) xp rfl))) (aK _)) (@iH _ _ _ _ (@wA _ _ _ _ _ _ _ _ (NX hu) (pv 1) (pv 2) rfl)))) (@xo _ _ _ (@xu _ _ _ _ _ _ (xq (i:=5) nd rfl (by first|exact .inl rfl|exact .inr rfl) (@wE _ _ _ _ _ _ _ (wD rfl) (pv 3) (pv 4) (λ_ _=>rfl))) (@xu _ _ _ _ _ _ (PK (i:=4) nd rfl (by first|exact .inl rfl|exact .inr rfl) xg rJ) (@wB _ _ _ (wt PassesOwn.never rfl (@wR _ _ _ _ _ rfl (@wE _ _ _ _ _ _ _ (wD rfl) (e8 (pv 0) rfl) (pv 5) (λ_ _=>rfl))) (xk (i:=6) nd rfl (by first|exact .inl rfl|exact .inr rfl)) (@xo _ _ _ (@xu _ _ _ _ _ _ (xq (i:=7) nd rfl (by first|exact .inl rfl|exact .inr rfl) (@wE _ _ _ _ _ _ _ (wD rfl) (e8 (pv 0) rfl) (pv 6) (λ_ _=>rfl))) (@wB _ _ _ (@wG _ _ _ _ _ _ _ _ (@PW.pt _ _ _ (@kr _ _ _ _ _ _ _ (@wA _ _ _ _ _ _ _ _ nI (@wE _ _ _ _ _ _ _ (wD rfl) (jG rfl (pv 0) rfl) (pv 6) (λ_ _=>rfl)) xg (aK _)) (@iH _ _ _ _ (@wA _ _ _ _ _ _ _ _ (p8 hu) (pv 7) (pv 2) rfl)))) (@xo _ _ _ (@xu _ _ _ _ _ _ (MO (Nat.lt_of_le_of_lt (Nat.add_le_add_left (by decide) _) hu) (pv 2) (pv 7) (pv 6) rfl) (@wB _ _ _ (wS (gB zj ze zf wU (pv 3) (@xa _ _ _ (@xf _ _ _ _ _ (pv 7) xp rfl))))))) wC)))))))))) (@wB _ _ _ (@xv _ _ _ _ (pv 2)))))))),?_⟩;have line:8000<=sizeLine:=by rw [sizeLine_eq];decide
  have NI:=st.raw;have n3:=st.sz.1;have t3:=st.sz.2;refine λd XT=>?_;have s1:aB H (upd H d (.dK [])):=xi XT;refine (zr rfl ⟨x,_,dx,iD rfl ⟨s1 _ _ NI.ins,T.Ag,T.cu,rfl,xb,[(Sum.inl (src:Int),V.cI)],rfl,by show 1<=15;decide,?_⟩⟩);have s2:aB H (upd (upd H d (.dK [])) d (.dK (cF [(src,none)]))):=aB.put XT s1;have d2:upd (upd H d (.dK [])) d (.dK (cF [(src,none)])) d=some (.dK (cF [(src,none)])):=xb;show fL 2 (V.ref d) _ (upd (upd H d (.dK [])) d (.dK (cF [(src,none)]))) _;generalize upd (upd H d _) d _=H2 at s2 d2 ⊢;refine (zr rfl ⟨x,_,dx,iD rfl ⟨s2 _ _ NI.ins,T.Ag,T.cu,rfl,by show 1<=_;omega,λl hl=>?_⟩⟩);have c3:jX H (upd H2 l (.lst [V.int (src:Int)])) d l ts sp n src [(src,none)]:=⟨s2.trans (xi hl),XT,s2.free hl,xh d2 hl,(xi hl) _ _ d2,xb,O3 hs⟩;generalize upd H2 l _=H3 at c3 ⊢;refine ⟨λm σ H5=>∃ tree,∃ pl:Nat,∃ o1 o2 o3,σ=[some (.ref x),some (oV (g.map λz=>(z:Int))),some (.ref d),some (.ref l),some (.int (pl:Int)),o1,o2,o3]/\jX H H5 d l ts sp n src tree/\pl<=tree.length/\(∀ (i p:Nat),i < pl->(cO tree)[i]?=some p->bW ts sp (cO tree) p)/\m=n - pl,⟨_,_,0,none,none,none,rfl,c3,zb _,λi p h=>by omega,rfl⟩,?_⟩;rintro m σ H5 ⟨tree,pl,o1,o2,o3,rfl,c5,LZ,Zb,rfl⟩;have gM:=st.same c5.sm;have tl5:=c5.tk.len;have adV:((cO tree).map λp:Nat=>V.int (p:Int)).length=tree.length:=by unfold cO;rw [zA,zA]
  refine (zr rfl (zr rfl ⟨l,zr rfl ⟨.inl (aL.of c5.hl),aO rfl rfl (zr rfl ?_)⟩⟩));by_cases c:pl < tree.length
  ·refine bH (decide_eq_true (by omega)) (zr rfl (zr rfl ⟨d,_,(g.map λz=>(z:Int)),rfl,c5.hd,rfl,zr rfl ?_⟩));refine Qn (λ_=>?_) λhb=>?_
   ·obtain ⟨p,hp⟩:∃ p,(cO tree)[pl]?=some p:=⟨_,zL (by unfold cO;rw [zA];exact c)⟩;have pn:p < n:=by obtain ⟨y,hy,rfl⟩:=zP.mp (zB hp);exact c5.tk.ins y hy
    obtain ⟨lp,XE⟩:∃ r,as[p]?=some r:=⟨_,zL (by rw [st.len];exact pn)⟩;have pm:=zB hp;refine ⟨fun σ H5=>∃ tree,∃ o1 o2 o3,σ=[some (.ref x),some (oV (g.map λz=>(z:Int))),some (.ref d),some (.ref l),some (.int ((pl:Int) + 1)),o1,o2,o3]/\jX H H5 d l ts sp n src tree/\pl + 1<=tree.length/\(∀ (i p:Nat),i < pl + 1->(cO tree)[i]?=some p->bW ts sp (cO tree) p),?_,?_⟩
    ·rintro σ H6 ⟨cA,p1,p2,p3,rfl,c6,h6,VP⟩;exact ⟨n - (pl + 1),by omega,cA,pl + 1,p1,p2,p3,rfl,c6,h6,VP,rfl⟩
    refine (zr rfl (zr rfl (lC c5.hl (wI (by rw [zS,hp];rfl)) (zr rfl (aO rfl rfl ?_)))));refine (zr rfl ⟨x,_,dx,iD rfl ⟨gM.raw.ins,T.Ag,T.c8,rfl,zr rfl ⟨lA,_,_,V.ref lp,rfl,rfl,aL.of gM.raw.lU,wI (by rw [zS,XE];rfl),lp,rfl,⟨_,aL.of (gM.raw.rws _ _ XE)⟩,?_⟩⟩⟩);refine wv (K:=K) (a:=lp) (xs:=(bS ts p ts.length).map V.int) (λi σ H6=>∃ cA,∃ o2 o3,σ=[some (.ref x),some (oV (g.map λz=>(z:Int))),some (.ref d),some (.ref l),some (.int ((pl:Int) + 1)),some (.int (p:Int)),o2,o3]/\jX H H6 d l ts sp n src cA/\(∃ more,cO cA=cO tree++more)/\∀ (j b:Nat),j < i->(bS ts p ts.length)[j]?=some (b:Int)->0 < bP sp b->hd ts b∈cO cA) ⟨tree,iD rfl ⟨c5,⟨[],by rw [zq]⟩,λj b h=>by omega⟩⟩ ?_ ?_ ?_
    ·rintro i σ H6 _ ⟨cA,o2,o3,rfl,c6,_,_⟩;exact aL.of ((st.same c6.sm).raw.rws _ _ XE)
    ·rintro i z σ H6 hz ⟨cA,o2,o3,rfl,c6,⟨more,em⟩,VP⟩;obtain ⟨y,hy,rfl⟩:=wN hz;obtain ⟨b,rfl,hb,tb⟩:=(jj (zD _)).mp (zB hy);have qT:=(st.same c6.sm).raw;have tl6:=c6.tk.len;have Sj:∀ {mO H7 o2 o3},jX H H7 d l ts sp n src mO->(∃ m,cO mO=cO cA++m)->(0 < bP sp b->hd ts b∈cO mO)->∃ O4,∃ o2' o3',[some (.ref x),some (oV (g.map λz=>(z:Int))),some (.ref d),some (.ref l),some (.int ((pl:Int) + 1)),some (.int (p:Int)),o2,o3]=[some (.ref x),some (oV (g.map λz=>(z:Int))),some (.ref d),some (.ref l),some (.int ((pl:Int) + 1)),some (.int (p:Int)),o2',o3']/\jX H H7 d l ts sp n src O4/\(∃ more,cO O4=cO tree++more)/\∀ (j b:Nat),j < i + 1->(bS ts p ts.length)[j]?=some (b:Int)->0 < bP sp b->hd ts b∈cO O4:=by
      rintro mO H7 o2 o3 c7 ⟨m7,e7⟩ h7;refine ⟨mO,o2,o3,rfl,c7,⟨more++m7,by rw [e7,em,xJ]⟩,λj b2 hj qm h0=>?_⟩;by_cases cj:j < i
      ·rw [e7];exact zd _ (VP j b2 cj qm h0)
      ·obtain rfl:j=i:=by omega
       rw [hy] at qm;obtain rfl:b=b2:=Int.ofNat.inj (Option.some.inj qm);exact h7 h0
     refine (zr rfl ⟨x,_,dx,iD rfl ⟨qT.ins,T.Ag,T.cL,rfl,zr rfl (lC qT.ends (wI (jg (oA hb))) ?_)⟩⟩);refine (zr rfl ⟨x,_,dx,iD rfl ⟨qT.ins,T.Ag,T.bR,rfl,zr rfl (lC qT.jc (wI (jg (jU (by rw [st.snd.len];exact hb)))) (aO rfl rfl (zr rfl ?_)))⟩⟩);by_cases c1:0 < bP sp b
     ·have eg:=iU.k (k:=Sum.inl ((hd ts b:Nat):Int)) c6.hd;refine bH (decide_eq_true c1) (zr rfl (zr rfl ⟨d,zr rfl ⟨eg,zr rfl ?_⟩⟩));rw [kh c6.tk.nd];by_cases c2:hd ts b∈cO cA
      ·exact aE (by rw [decide_eq_true c2];rfl) (Sj c6 ⟨[],by rw [zq]⟩ λ_=>c2)
      ·refine bH (by rw [decide_eq_false c2];rfl) ?_;have pt6:tl ts b∈cO cA:=by rw [tb,em];exact zd _ pm
       have Zp:=c6.tk.snoc hb c2 (XS st.Ry hb) rfl c1 pt6;refine (zr rfl (zr rfl (zr rfl ⟨d,zr rfl ⟨OL.k (k:=Sum.inl ((hd ts b:Nat):Int)) c6.hd (by unfold cF;rw [zA];omega),?_⟩⟩)));rw [O2 c2];have hl7:upd H6 d (.dK (cF (cA++[(hd ts b,some b)]))) l=some (.lst ((cO cA).map λp:Nat=>V.int (p:Int))):=by rw [xj (Ne.symm c6.ne)];exact c6.hl
       refine (zr rfl ⟨.inl ⟨rfl,_,aL.of hl7⟩,zr rfl ⟨l,aO rfl rfl ⟨hl7,by unfold cO;rw [zA,zA];omega,?_⟩⟩⟩);exact Sj (c6.add Zp) ⟨[hd ts b],jD⟩ λ_=>by rw [jD];exact zK _ (.head _)
     ·exact aE (decide_eq_false c1) (aE rfl (Sj c6 ⟨[],by rw [zq]⟩ λh=>absurd h c1))
    ·rintro σ H6 ⟨cA,o2,o3,rfl,c6,⟨more,em⟩,VP⟩;have l6:cA.length=(cO cA).length:=(zA ..).symm;have l5:tree.length=(cO tree).length:=(zA ..).symm;refine ⟨cA,_,iD rfl ⟨c6,by rw [l6,em,zE,<- l5];omega,λi p2 hi Tz=>?_⟩⟩;rw [em,zU (by omega)] at Tz;by_cases ci:i < pl
     ·exact (Zb i p2 ci Tz).more λz hz=>by rw [em];exact zd _ hz
     ·obtain rfl:i=pl:=by omega
      obtain rfl:p=p2:=by rw [hp] at Tz;exact Option.some.inj Tz
      intro b hb tb h0;obtain ⟨j,hj⟩:=zx ((jj (z:=(b:Int)) (zD _)).mpr ⟨b,rfl,hb,tb⟩);exact VP j b (by rw [zA];exact (zC.mp hj).1) hj h0
   ·refine (zr rfl (q d tree H5 c5.sm c5.fd c5.hd c5.tk λh2=>?_));cases g with
    | none=>cases hb
    | some z=>
     have hb:(!(cS (cF tree) (Sum.inl (z:Int))).isSome)=false:=hb;rw [kh c5.tk.nd,decide_eq_false (h2 z rfl)] at hb;cases hb
  ·refine aE (decide_eq_false (by omega)) (zr rfl (q d tree H5 c5.sm c5.fd c5.hd c5.tk λ_ p hp=>?_));obtain ⟨i,hi⟩:=zx hp;have:=(zC.mp hi).1;have lp:(cO tree).length=tree.length:=zA ..;exact Zb i p (by omega) hi
theorem Dj:aA ["self", "came", "goal", "way", "point", "arc", "most"] ["self", "came", "goal"] (av wY):=L2.bQ
theorem EY (T:Tx K mg a au aj ak ah aq)(B:br mg base):aV P w K mg base cR 1 a.Am a.AC ["self", "came", "goal"] (Pk a.Aa):=by
 refine T.Ao.ok Dj (λvs H Q E h=>?_) (λbZ A outer s H vs Q E hr h=>?_)
 ·obtain ⟨_,_,_,_,_,_,_,_,_,_,_,_,_,rfl,_⟩:=h;rfl
 ·have nd:=Dj.nd;have hu:=hr.units;obtain ⟨x,dx,lA,lE,lS,as,src,n,ts,sp,d,tree,g,rfl,st,XT,tk,hg,ng,q⟩:=h;refine ⟨_,(@xo _ _ _ (@xu _ _ _ _ _ _ (xq (i:=3) nd rfl (by first|exact .inl rfl|exact .inr rfl) (@wO _ _ _ _ wb)) (@xu _ _ _ _ _ _ (xq (i:=4) nd rfl (by first|exact .inl rfl|exact .inr rfl) (pv 2)) (@xu _ _ _ _ _ _ (@jE _ _ _ _ _ _ PassesOwn.never (@wA _ _ _ _ _ _ _ _ nH (pv 4) (e8 (pv 0) rfl) (aK _)) (@xo _ _ _ (@xu _ _ _ _ _ _ (xq (i:=5) nd rfl (by first|exact .inl rfl|exact .inr rfl) (MQ (Nat.lt_of_le_of_lt (Nat.add_le_add_left (by decide) _) hu) (pv 1) (pv 4) (λ_ _=>rfl))) (@xu _ _ _ _ _ _ (wS (gB zj ze zf wU (pv 3) (@xa _ _ _ (@xf _ _ _ _ _ (pv 5) xp rfl)))) (@wB _ _ _ (xq (i:=4) nd rfl (by first|exact .inl rfl|exact .inr rfl) (@wE _ _ _ _ _ _ _ (wD rfl) (e8 (pv 0) rfl) (@xy _ _ _ _ _ _ _ _ vS (pv 5) xg) (λ_ _=>rfl)))))))) (@xu _ _ _ _ _ _ (xq (i:=6) nd rfl (by first|exact .inl rfl|exact .inr rfl) (xw (OB rfl) (by rfl) T.qJ yU (@xa _ _ _ (@xf _ _ _ _ _ (wr (own:=["arc"]) (caps:=[0]) rfl (show aM ["arc"] [0] ["self", "came", "goal", "way", "point", "arc", "most"] (av wY) _ from L2.iw) (@wR _ _ _ _ _ rfl (pv 3)) (λ_ _ _ _=>(xk (i:=0) (show List.Nodup (["arc", "self"]:List Str) from by decide +kernel) rfl (by first|exact .inl rfl|exact .inr rfl))) (λ_ _ _ _=>cX) (λ_ _ _ _=>(@wE _ _ _ _ _ _ _ (wD rfl) (jG rfl (pv 1) rfl) (pv 0) (λ_ _=>rfl)))) xp rfl)))) (@xu _ _ _ _ _ _ (wt PassesOwn.never rfl (@wR _ _ _ _ _ rfl (pv 3)) (xk (i:=5) nd rfl (by first|exact .inl rfl|exact .inr rfl)) (@xo _ _ _ (@xu _ _ _ _ _ _ (qX (jG rfl (pv 0) rfl) (pv 5) (oi rfl) (pv 6) Va set_list) (@wB _ _ _ (qX (jG rfl (pv 0) rfl) (@xy _ _ _ _ _ _ _ _ vS (pv 5) xg) (oi rfl) (pv 6) rJ set_list))))) (@wB _ _ _ (@xv _ _ _ _ (pv 6))))))))),?_⟩;have line:8000<=sizeLine:=by rw [sizeLine_eq];decide
  have n3:=st.sz.1;have t3:=st.sz.2;have acU:=tk.len;obtain ⟨yg,hyg,rfl⟩:=zP.mp hg;obtain ⟨ig,hig⟩:=zx hyg;have ilt:=(zC.mp hig).1;refine ⟨by show 0<=_;omega,λl hl=>?_⟩;have s1:aB H (upd H l (.lst (([]:List Nat).map λa:Nat=>V.int (a:Int)))):=xi hl;have l1:upd H l (.lst (([]:List Nat).map λa:Nat=>V.int (a:Int))) l=some (.lst (([]:List Nat).map λa:Nat=>V.int (a:Int))):=xb;show fL 3 (V.ref l) _ (upd H l (.lst (([]:List Nat).map λa:Nat=>V.int (a:Int)))) _;generalize upd H l _=H1 at s1 l1 ⊢;refine (zr rfl ?_);refine ⟨λm σ H5=>∃ (w0:List Nat) (c i:Nat) (o:Option Nat) (o1:Option V),σ=[some (.ref x),some (.ref d),some (.int (yg.1:Int)),some (.ref l),some (.int (c:Int)),o1,none]/\aB H H5/\H5 l=some (.lst (w0.map λa:Nat=>V.int (a:Int)))/\i7 ts yg.1 w0 c/\tree[i]?=some (c,o)/\(∀ a∈w0,a < 2 * ts.length/\0 < bP sp a/\∃ j y,i < j/\tree[j]?=some (y,some a))/\w0.Nodup/\w0.length + i < tree.length/\m=i,⟨_,[],yg.1,ig,yg.2,none,rfl,s1,l1,.nil,hig,(λ_ h=>by cases h),.nil,by show 0 + ig < _;omega,rfl⟩,?_⟩;rintro i σ H5 ⟨w0,c,i9,o,o1,rfl,s5,l5,bw,hi,hw,ZR,wl,rfl⟩;have gM:=(st.same s5).raw;refine (zr rfl (zr rfl ⟨x,_,dx,iD rfl ⟨gM.ins,T.Ag,T.cu,rfl,rfl,zr rfl ?_⟩⟩));refine Qn (λhc=>?_) λhc=>?_
  ·have hc:c≠src:=λe=>by subst e;rw [decide_eq_true rfl] at hc;cases hc
   have i0:0 < i:=by
    rcases Nat.eq_zero_or_pos i with z | z
    ·subst z;rw [tk.root] at hi;cases hi;exact absurd rfl hc
    ·exact z
   obtain ⟨b,e1,hb,e2,b0,j,y,hj,hjy,ey⟩:=tk.arc i _ hi i0;have e1:o=some b:=e1;subst e1;have e2:hd ts b=c:=e2;have eg:iU H5 d (V.int (c:Int)) (some (V.int (b:Int))):=by
    have:=iU.k (k:=Sum.inl (c:Int)) (s5 _ _ XT);rw [mK tk.nd hi] at this;exact this
   have nb:b ∉ w0:=λh=>by
    obtain ⟨_,_,j2,y2,hj2,hy2⟩:=hw b h;obtain ⟨b2,f1,_,f2,_⟩:=tk.arc j2 _ hy2 (by omega);have f1:some b=some b2:=f1;cases f1;have f2:hd ts b=y2:=f2;have:=tS tk.nd (i:=i) (j:=j2) (a:=c) (by unfold cO;rw [zS,hi];rfl) (by unfold cO;rw [zS,hy2];show some y2=_;rw [<-f2,e2]);omega
   refine ⟨fun σ H6=>∃ (w0:List Nat) (c j:Nat) (o:Option Nat) (o1:Option V),σ=[some (.ref x),some (.ref d),some (.int (yg.1:Int)),some (.ref l),some (.int (c:Int)),o1,none]/\aB H H6/\H6 l=some (.lst (w0.map λa:Nat=>V.int (a:Int)))/\i7 ts yg.1 w0 c/\tree[j]?=some (c,o)/\(∀ a∈w0,a < 2 * ts.length/\0 < bP sp a/\∃ j' y,j < j'/\tree[j']?=some (y,some a))/\w0.Nodup/\w0.length + j < tree.length/\j < i,?_,?_⟩
   ·rintro σ H6 ⟨w6,c6,j6,o6,p6,rfl,h1,h2,h3,h4,h5,h6,h7,h8⟩;exact ⟨j6,h8,w6,c6,j6,o6,p6,rfl,h1,h2,h3,h4,h5,h6,h7,rfl⟩
   refine (zr rfl (zr rfl ⟨d,zr rfl ⟨eg,?_⟩⟩));refine (zr rfl ⟨.inl ⟨rfl,_,aL.of l5⟩,zr rfl ⟨l,aO rfl rfl ⟨l5,by rw [zA];omega,?_⟩⟩⟩);have s6:aB H (upd H5 l (.lst ((w0.map λa:Nat=>V.int (a:Int))++[V.int (b:Int)]))):=aB.put hl s5;have l6:upd H5 l (.lst ((w0.map λa:Nat=>V.int (a:Int))++[V.int (b:Int)])) l=some (.lst ((w0++[b]).map λa:Nat=>V.int (a:Int))):=by rw [xb,zI];rfl
   generalize upd H5 l _=H6 at s6 l6 ⊢;have qT:=(st.same s6).raw;refine (zr rfl ⟨x,_,dx,iD rfl ⟨qT.ins,T.Ag,T.cL,rfl,zr rfl (aO rfl rfl ⟨lE,_,_,V.int ((tl ts b:Nat):Int),rfl,rfl,aL.of qT.ends,by rw [qM];exact wI (jg (oA (mw hb))),?_⟩)⟩⟩);refine ⟨w0++[b],tl ts b,j,y.2,zr rfl ⟨s6,l6,.snoc (by rw [e2];exact bw),by rw [<-ey];exact hjy,λz hz=>?_,?_,by rw [zE];show _ + 1 + j < _;omega,hj⟩⟩
   ·rcases zT.mp hz with h | h
    ·obtain ⟨h1,h2,j',y',h3,h4⟩:=hw z h;exact ⟨h1,h2,j',y',by omega,h4⟩
    ·rw [zF.mp h];exact ⟨hb,b0,i,c,hj,hi⟩
   ·exact List.nodup_append.mpr ⟨ZR,zk.mpr ⟨by simp,.nil⟩,λz hz c hc=>by rw [zF.mp hc];exact λe=>nb (e ▸ hz)⟩
  ·have hc:c=src:=by
    by_cases e:c=src
    ·exact e
    ·exfalso;rw [decide_eq_false (λz=>e (by injection z with z;exact Int.ofNat.inj z))] at hc;cases hc
   subst hc;have w1:0 < w0.length:=bw.pos ng;refine (zr rfl ⟨l,rfl,⟨_,aL.of l5⟩,?_⟩);refine Mi (K:=K) (a:=l) (xs:=w0.map λa:Nat=>V.int (a:Int)) (λi τ acc H6=>(∃ t0,τ=[t0,some (.ref x)])/\acc=((w0.take i).map λa=>V.int (bP sp a))/\H6=H5) ⟨⟨_,rfl⟩,rfl,rfl⟩ (by rw [zA];omega) ?_ ?_ ?_
   ·rintro i τ acc H6 ⟨_,rfl,rfl⟩;exact ⟨by rw [zA,zZ];omega,aL.of l5⟩
   ·rintro i z τ acc H6 C hz ⟨⟨t0,rfl⟩,rfl,rfl⟩ hC;obtain ⟨b,hb,rfl⟩:=wN hz;have qm:=hw b (zB hb);refine (zr rfl ⟨x,_,dx,iD rfl ⟨gM.ins,T.Ag,T.bR,rfl,zr rfl (lC gM.jc (wI (jg (jU (by rw [st.snd.len];exact qm.1)))) ?_)⟩⟩);exact hC _ _ _ ⟨⟨_,rfl⟩,by rw [yn,hb,zI];rfl,rfl⟩
   ·rintro τ acc H6 ⟨_,rfl,rfl⟩ lm hm;have eL:((w0.take (w0.map λa:Nat=>V.int (a:Int)).length).map λa=>V.int (bP sp a))=List.map V.int (w0.map (bP sp)):=by rw [zA,zn,z4];rfl
    rw [eL];have s6:=s5.trans (xi (o:=HO.lst (List.map V.int (w0.map (bP sp)))) hm);have l6:=(xi (o:=HO.lst (List.map V.int (w0.map (bP sp)))) hm) _ _ l5;refine ⟨lm,zr rfl ⟨aL.of xb,by rw [zA];exact w1,λM hM hle=>?_⟩⟩;generalize upd H6 lm _=H7 at s6 l6 ⊢;obtain ⟨bM,hbM,rfl⟩:=zP.mp hM;have M0:=(hw bM hbM).2.1;have wle:∀ z∈w0,z < 2 * ts.length/\bP sp bM<=bP sp z:=λz hz=>⟨(hw z hz).1,hle _ (zP.mpr ⟨z,hz,rfl⟩)⟩;refine (zr rfl ⟨l,rfl,⟨_,aL.of l6⟩,?_⟩);refine wv (K:=K) (a:=l) (xs:=w0.map λa:Nat=>V.int (a:Int)) (λi σ H8=>(∃ o5,σ=[some (.ref x),some (.ref d),some (.int (yg.1:Int)),some (.ref l),some (.int (c:Int)),o5,some (.int (bP sp bM))])/\bf [lS] H H8/\H8 l=some (.lst (w0.map λa:Nat=>V.int (a:Int)))/\fh a.Aa H8 x dx lA lE lS as (c:Int) (λp=>bS ts p ts.length) (ck ts) (aW sp (w0.take i) (bP sp bM))) ⟨⟨_,rfl⟩,aB.uf s6,l6,(st.same s6).raw⟩ ?_ ?_ ?_
    ·rintro i σ H8 _ ⟨_,_,l8,_⟩;exact aL.of l8
    ·rintro i z σ H8 hz ⟨⟨o5,rfl⟩,k8,l8,My⟩;obtain ⟨b,hb,rfl⟩:=wN hz;have qm:=(hw b (zB hb)).1;have XH:(aW sp (w0.take i) (bP sp bM)).length=2 * ts.length:=by rw [iA];exact st.snd.len
     have lne:l≠lS:=Ne.symm (xh st.raw.jc hl);have eT:w0.take (i + 1)=w0.take i++[b]:=by rw [yn,hb];rfl
     have eB:aW sp (w0.take (i + 1)) (bP sp bM)=bump (aW sp (w0.take i) (bP sp bM)) b (bP sp bM):=by rw [eT,jT]
     rw [eB];generalize aW sp (w0.take i) (bP sp bM)=sq at My XH ⊢;refine (zr rfl ⟨x,_,dx,iD rfl ⟨My.ins,T.Ag,T.bR,rfl,zr rfl ⟨lS,_,_,b,rfl,rfl,aL.of My.jc,jg (jU (by rw [XH];exact qm)),zr rfl (aO rfl rfl ⟨lS,_,aO rfl rfl ⟨My.jc,rH (by rw [zA,XH];exact qm),?_⟩⟩)⟩⟩⟩);rw [ua];have V5:=My.Uz (dM:=sq.set b (bP sq b - bP sp bM));have k9:bf [lS] H8 (upd H8 lS (.lst ((sq.set b (bP sq b - bP sp bM)).map V.int))):=bf.upd (.head _);have l9:upd H8 lS (.lst ((sq.set b (bP sq b - bP sp bM)).map V.int)) l=some (.lst (w0.map λa:Nat=>V.int (a:Int))):=by rw [xj lne];exact l8
     generalize upd H8 lS _=H9 at V5 k9 l9 ⊢;have SD:(sq.set b (bP sq b - bP sp bM)).length=2 * ts.length:=by rw [yc];exact XH
     unfold bump;generalize sq.set b (bP sq b - bP sp bM)=sr at V5 SD ⊢;refine (zr rfl ⟨x,_,dx,iD rfl ⟨V5.ins,T.Ag,T.bR,rfl,zr rfl (aO rfl rfl ⟨lS,_,_,flip b,rfl,congrArg V.int (qM b),aL.of V5.jc,jg (jU (by rw [SD];exact mw qm)),zr rfl (aO rfl rfl ⟨lS,_,_,flip b,rfl,rfl,V5.jc,by rw [qM];exact rH (by rw [zA,SD];exact mw qm),?_⟩)⟩)⟩⟩);rw [ua];exact ⟨⟨_,rfl⟩,(k8.trans k9).trans (bf.upd (.head _)),by rw [xj lne];exact l9,V5.Uz⟩
    ·rintro σ H8 ⟨⟨o5,rfl⟩,k8,l8,My⟩;rw [zA,zn] at My;exact (zr rfl (q _ w0 _ M0 bw wle ZR k8 ⟨My,st.len,st.Ry,st.snd.way (Int.le_of_lt M0) wle ZR,st.sz⟩))
theorem EM:aA ["self", "source", "goal", "total", "came"] ["self", "source", "goal"] (av DQ):=L2.bQ
theorem HQ (T:Tx K mg a au aj ak ah aq)(B:br mg base):aV P w K mg base cR 2 a.AU a.BL ["self", "source", "goal"] (RG a.Aa):=by
 have D9:=@Gx P w _ _ base _ _ _ _ _ _ T B;have FJ:=@EY P w _ _ base _ _ _ _ _ _ T B;refine T.AX.ok EM (λvs H Q E h=>?_) (λbZ A outer s H vs Q E hr h=>?_)
 ·obtain ⟨_,_,_,_,_,_,_,_,_,_,_,_,rfl,_⟩:=h;rfl
 ·have nd:=EM.nd;have hu:=hr.units;obtain ⟨x,dx,lA,lE,lS,as,WL,n,ts,sp,s0,g,rfl,st,hs,hg,ne,q⟩:=h;refine ⟨_,(@xo _ _ _ (@xu _ _ _ _ _ _ (nC (pv 0) (pv 1) rfl) (@xu _ _ _ _ _ _ (xq (i:=3) nd rfl (by first|exact .inl rfl|exact .inr rfl) xg) (@xu _ _ _ _ _ _ (xq (i:=4) nd rfl (by first|exact .inl rfl|exact .inr rfl) (fU (pv 0) T.Ag T.D5 D9 (hr.mono (by decide)) T.D3 .nil ay (@xa _ _ _ (@xf _ _ _ _ _ (pv 2) xp rfl)))) (@xu _ _ _ _ _ _ (@jE _ _ _ _ _ _ PassesOwn.never (@wA _ _ _ _ _ _ _ _ (UL hu) (pv 2) (pv 4) rfl) (@xo _ _ _ (@xu _ _ _ _ _ _ (PK (i:=3) nd rfl (by first|exact .inl rfl|exact .inr rfl) (fU (pv 0) T.Ag T.FG FJ (hr.mono (by decide)) T.FC .nil ay (@xa _ _ _ (@xf _ _ _ _ _ (pv 4) (@xf _ _ _ _ _ (pv 2) xp rfl) rfl))) rJ) (@wB _ _ _ (xq (i:=4) nd rfl (by first|exact .inl rfl|exact .inr rfl) (fU (pv 0) T.Ag T.D5 D9 (hr.mono (by decide)) T.D3 .nil ay (@xa _ _ _ (@xf _ _ _ _ _ (pv 2) xp rfl)))))))) (@wB _ _ _ (@xv _ _ _ _ (pv 3)))))))),?_⟩;have line:8000<=sizeLine:=by rw [sizeLine_eq];decide
  have NI:=st.raw;refine (zr rfl (zr rfl ⟨x,_,dx,zr rfl ⟨NI.ins,T.Ag,T.cu,by show 4 < 1000;decide,?_⟩⟩));have Mz:=NI.Uy (src':=(s0:Int));have k1:bf [x,lS] H (upd H x (.ins a.Aa dx [("source", .int (s0:Int)),("arcs", .ref lA),("ends", .ref lE),("spare", .ref lS)])):=bf.upd (.head _);show lN _ _ _ _ (upd H x (.ins a.Aa dx [("source", .int (s0:Int)),("arcs", .ref lA),("ends", .ref lE),("spare", .ref lS)]));generalize upd H x _=H1 at Mz k1 ⊢;have sI:lW a.Aa H1 x dx lA lE lS as (s0:Int) n ts sp:=⟨Mz,st.len,st.Ry,st.snd,st.sz⟩;refine (zr rfl ⟨x,dx,zr rfl ⟨Mz.ins,rfl,zr rfl ⟨x,dx,lA,lE,lS,as,s0,n,ts,sp,some g,rfl,sI,hs,λd tree H2 s2 fd h2 tk cl=>?_⟩⟩⟩);refine ⟨λm σ H5=>∃ tot dM d tree,σ=[some (.ref x),some (.int (s0:Int)),some (.int (g:Int)),some (.int tot),some (.ref d)]/\0<=tot/\bf [x,lS] H H5/\lW a.Aa H5 x dx lA lE lS as (s0:Int) n ts dM/\H5 d=some (.dK (cF tree))/\cH ts dM n s0 tree/\(g ∉ cO tree->∀ p∈cO tree,bW ts dM (cO tree) p)/\(∀ p,fj ts dM p ts.length=fj ts sp p ts.length + tot * ((if g=p then 1 else 0) - (if s0=p then 1 else 0)))/\m=(Wn ts ts.length - fj ts dM g ts.length).toNat,⟨_,0,sp,d,tree,rfl,zp _,k1.trans (aB.uf s2),sI.same s2,h2,tk,λh=>cl λz e=>by cases e;exact h,λp=>by rw [Int.zero_mul,Int.add_zero],rfl⟩,?_⟩;rintro m σ H5 ⟨tot,dM,d5,O5,rfl,t0,k5,gM,h5,Zq,Zb,nt5,rfl⟩;have eg:=iU.k (k:=Sum.inl (g:Int)) h5;refine (zr rfl (zr rfl ⟨d5,zr rfl ⟨eg,zr rfl ?_⟩⟩));rw [kh Zq.nd];by_cases c:g∈cO O5
  ·refine bH (decide_eq_true c) ⟨fun σ H6=>∃ m6 w6 d6 cA,σ=[some (.ref x),some (.int (s0:Int)),some (.int (g:Int)),some (.int (tot + m6)),some (.ref d6)]/\0 < m6/\i7 ts g w6 s0/\(∀ a∈w6,a < 2 * ts.length/\m6<=bP dM a)/\w6.Nodup/\bf [x,lS] H H6/\lW a.Aa H6 x dx lA lE lS as (s0:Int) n ts (aW dM w6 m6)/\H6 d6=some (.dK (cF cA))/\cH ts (aW dM w6 m6) n s0 cA/\(g ∉ cO cA->∀ p∈cO cA,bW ts (aW dM w6 m6) (cO cA) p),?_,?_⟩
   ·rintro σ H6 ⟨m6,w6,d6,cA,rfl,m0,bw,hw,nd,k6,qT,h6,tk6,VP⟩;have nt6:∀ p,fj ts (aW dM w6 m6) p ts.length=fj ts sp p ts.length + (tot + m6) * ((if g=p then 1 else 0) - (if s0=p then 1 else 0)):=λp=>by
     rw [MV gM.snd.len bw λa h=>(hw a h).1,nt5 p,Int.add_mul];omega
    have e6:fj ts (aW dM w6 m6) g ts.length=fj ts dM g ts.length + m6:=by
     rw [MV gM.snd.len bw λa h=>(hw a h).1,if_pos rfl,if_neg ne];omega
    have cp:=MY qT.snd g _ (zD _);exact ⟨_,by rw [e6] at cp ⊢;omega,tot + m6,_,d6,cA,rfl,by omega,k6,qT,h6,tk6,VP,nt6,rfl⟩
   ·refine (zr rfl (zr rfl ⟨x,dx,zr rfl ⟨gM.raw.ins,rfl,zr rfl (zr rfl ⟨x,dx,lA,lE,lS,as,s0,n,ts,dM,d5,O5,g,rfl,gM,h5,Zq,c,Ne.symm ne,λm6 w6 H6 m0 bw hw nd k6 qT=>?_⟩)⟩⟩));refine (aO rfl rfl (zr rfl ⟨x,dx,zr rfl ⟨qT.raw.ins,rfl,zr rfl ⟨x,dx,lA,lE,lS,as,s0,n,ts,_,some g,rfl,qT,hs,λd7 mO H7 s7 fd7 h7 Zp cl7=>?_⟩⟩⟩));exact ⟨m6,w6,d7,mO,rfl,m0,bw,hw,nd,k5.trans ((k6.sub λz h=>by rw [zF.mp h];exact .tail _ (.head _)).trans (aB.uf s7)),qT.same s7,h7,Zp,λh=>cl7 λz e=>by cases e;exact h⟩
  ·refine aE (decide_eq_false c) (zr rfl (q tot dM O5 _ k5 gM t0 nt5 Zq c (Zb c)))
theorem Lk (T:Tx K mg a au aj ak ah aq)(B:br mg base):aV P w K mg base cR 1 a.AV a.BM ["self"] (MD):=⟨λ_ _ _ _ h=>h.elim,λ_ _ _ _ _ _ _ _ _ _ _ _ _ h=>h.elim⟩
theorem Gm:aA ["book", "thing", "sender", "since", "wish", "last"] ["book", "thing"] (av EQ):=L2.bQ
theorem IW (T:Tx K mg a au aj ak ah aq)(B:br mg base):aV P w K mg base cR 4 a.Bs a.Cv ["book", "thing"] (vD):=by
 have IT:=@Ke P w _ _ base _ _ _ _ _ _ T B;have Hk:=@IV P w _ _ base _ _ _ _ _ _ T B;refine T.B2.ok Gm (λvs H Q E h=>?_) (λbZ A outer s H vs Q E hr h=>?_)
 ·obtain ⟨b,x,r,_,_,_,_,rfl,_⟩:=h;rfl
 ·have nd:=Gm.nd;have hu:=hr.units;obtain ⟨b,x,r,af,tr,tm,ps,rfl,hb,th,q⟩:=h;refine ⟨_,(@xo _ _ _ (@xu _ _ _ _ _ _ (@wG _ _ _ _ _ _ _ _ (@PW.pt _ _ _ (@gU _ _ _ _ _ _ _ (@wq _ _ _ _ (wd (xw (wQ) (by rfl) T.bL zg (@xa _ _ _ (@xf _ _ _ _ _ (pv 1) (@xf _ _ _ _ _ (cZ (v:=V.ty "tuple") rfl T.gq yF rfl) xp rfl) rfl))))) (@dO _ _ _ _ (@wA _ _ _ _ _ _ _ _ nH (xw (xx rfl) (by rfl) T.cC PySem.boot_len (@xa _ _ _ (@xf _ _ _ _ _ (pv 1) xp rfl))) xg (aK _))))) (@xo _ _ _ (@wB _ _ _ (@xv _ _ _ _ eK))) wC) (@xu _ _ _ _ _ _ (wa (pv 1) (wJ (n:=4) rfl rfl (xl (xk (i:=2) nd rfl (by first|exact .inl rfl|exact .inr rfl)) (xl (xk (i:=3) nd rfl (by first|exact .inl rfl|exact .inr rfl)) (xl (xk (i:=4) nd rfl (by first|exact .inl rfl|exact .inr rfl)) (xl (xk (i:=5) nd rfl (by first|exact .inl rfl|exact .inr rfl)) wF)))))) (@wB _ _ _ (@xv _ _ _ _ (@dR _ _ _ _ _ _ _ (xm Hk (hr.mono (by decide)) rfl T.Hf T.Hh T.Hj .nil ay (@xa _ _ _ (@xf _ _ _ _ _ (pv 0) (@xf _ _ _ _ _ (pv 2) xp rfl) rfl))) (@dR _ _ _ _ _ _ _ (xm IT (hr.mono (by decide)) rfl T.IO T.IQ T.IR .nil ay (@xa _ _ _ (@xf _ _ _ _ _ (pv 3) xp rfl))) (@dR _ _ _ _ _ _ _ (xm Hk (hr.mono (by decide)) rfl T.Hf T.Hh T.Hj .nil ay (@xa _ _ _ (@xf _ _ _ _ _ (pv 0) (@xf _ _ _ _ _ (pv 4) xp rfl) rfl))) (@gZ _ _ _ _ _ (xm IT (hr.mono (by decide)) rfl T.IO T.IQ T.IR .nil ay (@xa _ _ _ (@xf _ _ _ _ _ (pv 5) xp rfl)))))))))))),?_⟩;rcases th with ⟨t,ht,nt,rfl⟩ | ⟨l,xs,rfl,hl,hx,rfl⟩
  ·refine (zr rfl ⟨x,t, "tuple", rfl,ht,.inr (.inr (.inr rfl)),zr rfl ?_⟩);refine bH ?_ (bH rfl q);rcases lX ht with rfl | rfl | rfl | rfl | rfl | rfl | rfl <;> first | rfl | exact absurd rfl nt
  ·refine (zr rfl ⟨_, "tuple", "tuple", rfl,jo hl,.inr (.inr (.inr rfl)),zr rfl (aE rfl ?_)⟩);refine (zr rfl ⟨l,zr rfl ⟨.inr (cD.of hl),rfl,zr rfl ?_⟩⟩);by_cases h4:xs.length=4
   ·match xs,h4 with
    | [x0,x1,x2,x3],_=>
     obtain ⟨t0,h0⟩:=hx x0 (by simp);obtain ⟨t1,h1⟩:=hx x1 (by simp);obtain ⟨t2,h2⟩:=hx x2 (by simp);obtain ⟨t3,h3⟩:=hx x3 (by simp);refine aE (by simp) ?_;refine (zr rfl (Nu hl ?_));have q:Q (.bl (eX 0 ((af.length:Int) - 1) x0 && (eX 0 1000000000 x1 && (eX 0 ((af.length:Int) - 1) x2 && eX 0 1000000000 x3)))) H:=q;refine (zr rfl (zr rfl (QI b x0 t0 af tr tm ps ⟨rfl,hb,h0,zr rfl (ug (λc0=>?_) (λc0=>by rw [c0] at q;exact q))⟩)));refine (zr rfl ⟨x1,t1,rfl,h1,zr rfl (ug (λc1=>?_) (λc1=>by rw [c0,c1] at q;exact q))⟩);refine (zr rfl (zr rfl (QI b x2 t2 af tr tm ps ⟨rfl,hb,h2,zr rfl (ug (λc2=>?_) (λc2=>by rw [c0,c1,c2] at q;exact q))⟩)));refine (zr rfl ⟨x3,t3,rfl,h3,?_⟩);rw [c0,c1,c2] at q;exact q
   ·refine bH ?_ ?_
    ·have:¬ V.int (xs.length:Int)=V.int 4:=λz=>h4 (by have:=V.int.inj z;omega);simp [this]
    ·have:isLet (af.length:Int) (some xs)=false:=by
      unfold isLet;split
      ·rename_i e;cases e;simp at h4
      ·rfl
     rw [this] at q;exact q
theorem DW:aA ["book", "sender", "since", "times", "came", "number", "giver", "other", "when"] ["book", "sender", "since"] (av Dl):=L2.bQ
theorem DY (T:Tx K mg a au aj ak ah aq)(B:br mg base):aV P w K mg base cR 2 a.AD a.A4 ["book", "sender", "since"] (Ph):=by
 have KS:=@JE P w _ _ base _ _ _ _ _ _ T B;have KN:=@K1 P w _ _ base _ _ _ _ _ _ T B;have KQ:=@JC P w _ _ base _ _ _ _ _ _ T B;refine T.AN.ok DW (λvs H Q E h=>?_) (λbZ A outer s H vs Q E hr h=>?_)
 ·obtain ⟨b,k,x,_,_,_,_,rfl,_⟩:=h;rfl
 ·have nd:=DW.nd;have hu:=hr.units;obtain ⟨b,k,x,af,tr,tm,ps,rfl,hb,hn,gd,q⟩:=h;refine ⟨_,(@xo _ _ _ (@xu _ _ _ _ _ _ (xq (i:=3) nd rfl (by first|exact .inl rfl|exact .inr rfl) (xm KQ (hr.mono (by decide)) rfl T.Ki T.Kp T.Kw .nil ay (@xa _ _ _ (@xf _ _ _ _ _ (pv 0) (@xf _ _ _ _ _ (pv 1) (@xf _ _ _ _ _ (pv 2) xp rfl) rfl) rfl)))) (@xu _ _ _ _ _ _ (xq (i:=4) nd rfl (by first|exact .inl rfl|exact .inr rfl) PU) (@xu _ _ _ _ _ _ (wt PassesOwn.never rfl (@wR _ _ _ _ _ rfl (xm KN (hr.mono (by decide)) rfl T.Ll T.Lo T.Lq .nil ay (@xa _ _ _ (@xf _ _ _ _ _ (pv 0) xp rfl)))) (wJ (n:=4) rfl rfl (xl (xk (i:=5) nd rfl (by first|exact .inl rfl|exact .inr rfl)) (xl (xk (i:=6) nd rfl (by first|exact .inl rfl|exact .inr rfl)) (xl (xk (i:=7) nd rfl (by first|exact .inl rfl|exact .inr rfl)) (xl (xk (i:=8) nd rfl (by first|exact .inl rfl|exact .inr rfl)) wF))))) (@xo _ _ _ (@wB _ _ _ (@wG _ _ _ _ _ _ _ _ (@PW.pt _ _ _ (@kr _ _ _ _ _ _ _ (nB (@rB _ _ _ _ _ (@wE _ _ _ _ _ _ _ (wD rfl) (pv 3) (pv 7) (λ_ _=>rfl)))) (@iH _ _ _ _ (wd (xm KS (hr.mono (by decide)) rfl T.Kk T.Kr T.Ky .nil ay (@xa _ _ _ (@xf _ _ _ _ _ (@wE _ _ _ _ _ _ _ (wD rfl) (pv 3) (pv 6) (λ_ _=>rfl)) (@xf _ _ _ _ _ (pv 8) xp rfl) rfl))))))) (@xo _ _ _ (@xu _ _ _ _ _ _ (wa (pv 8) (vO (pv 3) (pv 7) set_list)) (@wB _ _ _ (MO (Nat.lt_of_le_of_lt (Nat.add_le_add_left (by decide) _) hu) (pv 4) (pv 7) (@wT _ _ _ _ _ (@xa _ _ _ (@xf _ _ _ _ _ (pv 5) (@xf _ _ _ _ _ (pv 6) xp rfl) rfl))) rfl)))) wC)))) (@wB _ _ _ (@xv _ _ _ _ (@wT _ _ _ _ _ (@xa _ _ _ (@xf _ _ _ _ _ (pv 3) (@xf _ _ _ _ _ (pv 4) xp rfl) rfl))))))))),?_⟩;have line:=eU;have l60:=gd.len;refine (zr rfl (zr rfl (zr rfl (QI b k x af tr tm ps ⟨rfl,hb,hn,λl H1 hl Rb h1=>?_⟩))));refine λd hd=>?_;have YF:d≠l:=(xh h1 hd).symm;have WR:=Rb.trans (xi (o:=HO.dK []) hd);have hfd:H d=none:=Rb.free hd;refine (zr rfl (Za b af tr tm ps ⟨rfl,hb.same WR,gd,λlw ws H2 SA V6 h2 hr ew=>?_⟩));have Y6:=V6 _ _ (xi (o:=HO.dK []) hd _ _ h1);have Oi:=V6 _ _ (xb (H:=H1) (a:=d) (o:=HO.dK []));have VG:(ws.map (·.2)).map (·.w)=bN (ps.map (·.2)):=by
   have:=Np (ps.map (·.2));rw [zA] at this;rw [ew,this]
  have ZV:ws.length=2 * ps.length:=by
   have:=congrArg List.length VG;rw [zA,zA,Nr,zA] at this;exact this
  have nwl:lw≠l:=(xh (xi (o:=HO.dK []) hd _ _ h1) SA).symm;have nwd:lw≠d:=(xh (xb (H:=H1) (a:=d) (o:=HO.dK [])) SA).symm;refine ⟨lw,rfl,⟨_,aL.of h2⟩,?_⟩;refine wv (K:=K) (a:=lw) (xs:=(ws.map λa=>V.ref a.1)) (λi σ H4=>(∃ v5 v6 v7 v8,σ=[some (.ref b),some (.int k),some (.int x),some (.ref l),some (.ref d),v5,v6,v7,v8])/\aB H H4/\H4 l=some (.lst ((rep af.length (((ws.take i).map (·.2.w)).foldl aJ (aI k x))).map oV))/\(∃ aF,H4 d=some (.dK aF)/\aF.length<=i/\pI (ps.map (·.2)) k (((ws.take i).map (·.2.w)).foldl aJ (aI k x)) aF H4)/\(∀ b u,b≠l->b≠d->H2 b=some u->H4 b=some u))
   ?_ ?_ ?_ ?_
  ·exact ⟨⟨_,_,_,_,rfl⟩,WR.trans V6,Y6,⟨[],Oi,zD _,λo t h=>.inl (by have h:aI k x o=some t:=h;unfold aI at h;split at h;assumption;cases h)⟩,λ_ _ _ _ e=>e⟩
  ·rintro i σ H4 _ ⟨_,_,_,_,kp⟩;exact aL.of (kp lw _ nwl nwd h2)
  ·rintro i y σ H4 hy ⟨⟨v5,v6,v7,v8,rfl⟩,WQ,h4,⟨aF,Vx,lk,cm⟩,kp⟩;obtain ⟨r,Tw,rfl⟩:=wN hy;have hi:i < ws.length:=(zC.mp Tw).1;have rm:r∈ws:=zB Tw;have Qt:=hr r rm;have nl:r.1≠l:=cT Qt Y6 (by intro z;cases z);have nd2:r.1≠d:=cT Qt Oi (by intro z;cases z);have fZ:=kp r.1 _ nl nd2 Qt;have wm:r.2.w∈bN (ps.map (·.2)):=by
    rw [<-VG];exact zP.mpr ⟨r.2,zP.mpr ⟨r,rm,rfl⟩,rfl⟩
   obtain ⟨g1,g2,g3,g4,g5⟩:=kc gd wm;have gl:r.2.w.g < af.length:=by omega
   have ol:r.2.w.o < af.length:=by omega
   have fold:∀ f:Fn,((ws.take i).map (·.2.w)).foldl aJ (aI k x)=f->((ws.take (i + 1)).map (·.2.w)).foldl aJ (aI k x)=aJ f r.2.w:=λf e=>by
    rw [wj Tw,zI,List.foldl_append,e];rfl
   refine (Nu fZ ?_);generalize ef:((ws.take i).map (·.2.w)).foldl aJ (aI k x)=f at h4 cm;have fo:=fold f ef;have hg:((rep af.length f).map oV)[r.2.w.g]?=some (oV (f r.2.w.g)):=vL gl;have ho:((rep af.length f).map oV)[r.2.w.o]?=some (oV (f r.2.w.o)):=vL ol;refine (zr rfl (zr rfl (lC h4 (wI ho) (zr rfl (jN (λc=>?_) (λc=>aE rfl ?_))))))
   ·have c':=vV.mp c;refine (zr rfl (zr rfl (lC h4 (wI hg) (zr rfl ⟨f r.2.w.g,r.2.w.t,rfl,zr rfl (ug (λc2=>?_) (λc2=>?_))⟩))))
    ·refine (zr rfl (zr rfl (zr rfl ⟨l,_,_,r.2.w.o,rfl,rfl,h4,rH (by rw [zA,jC];exact ol),?_⟩)));refine (zr rfl (zr rfl ⟨by show 2<=sizeLine;omega,λtt OO=>(zr rfl (zr rfl ⟨d,zr rfl ⟨OL.k (k:=Sum.inl (r.2.w.o:Int)) (xi OO _ _ (by rw [xj YF];exact Vx)) (by omega),?_⟩⟩))⟩));have nlt:l≠tt:=xh (xb) OO;have smx:=(aB.put (o:=HO.lst (((rep af.length f).map oV).set r.2.w.o (.int r.2.w.t))) hl WQ).trans (xi (o:=HO.tup [.int r.2.n,.int r.2.w.g]) OO);have hdx:=xi (o:=HO.tup [.int r.2.n,.int r.2.w.g]) OO _ _ (show (upd H4 l (HO.lst (((rep af.length f).map oV).set r.2.w.o (.int r.2.w.t)))) d=some (.dK aF) by rw [xj YF];exact Vx);have ntd:tt≠d:=(xh (show (upd H4 l (HO.lst (((rep af.length f).map oV).set r.2.w.o (.int r.2.w.t)))) d=some (.dK aF) by rw [xj YF];exact Vx) OO).symm;have lnk:u0 (ps.map (·.2)) r.2.n r.2.w.g r.2.w.o r.2.w.t:=ja (i:=ps.length) (by rw [<-ew];exact zP.mpr ⟨r,rm,rfl⟩);have cmN:pI (ps.map (·.2)) k (((ws.take (i + 1)).map (·.2.w)).foldl aJ (aI k x)) (putK aF (Sum.inl (r.2.w.o:Int)) (.ref tt)) (upd (upd (upd H4 l (HO.lst (((rep af.length f).map oV).set r.2.w.o (.int r.2.w.t)))) tt (HO.tup [.int r.2.n,.int r.2.w.g])) d (HO.dK (putK aF (Sum.inl (r.2.w.o:Int)) (.ref tt)))):=by
      rw [fo];unfold aJ;rw [if_pos ⟨c',c2⟩];exact pI.step (x:=r.2) (cm.aS (((bV.set h4).trans (bV.new OO)).trans (bV.Zz hdx))) c' c2 lnk (by rw [xj ntd,xb])
     refine ⟨⟨_,_,_,_,rfl⟩,aB.put hfd smx,?_,⟨_,xb,yB (eV _ _ _) (by omega),cmN⟩,λb u nb nb' e=>?_⟩
     ·rw [xj YF.symm,xj nlt,xb,fo];unfold aJ;rw [if_pos ⟨c',c2⟩,<- RX ol,List.map_set];rfl
     ·rw [xj nb'];exact xi OO _ _ (by rw [xj nb];exact kp b u nb nb' e)
    ·refine ⟨⟨_,_,_,_,rfl⟩,WQ,?_,⟨aF,Vx,by omega,by rw [fo];unfold aJ;rw [if_neg λz=>by rw [z.2] at c2;cases c2];exact cm⟩,kp⟩;rw [fo];unfold aJ;rw [if_neg λz=>by rw [z.2] at c2;cases c2];exact h4
   ·refine ⟨⟨_,_,_,_,rfl⟩,WQ,?_,⟨aF,Vx,by omega,by rw [fo];unfold aJ;rw [if_neg λz=>c (vV.mpr z.1)];exact cm⟩,kp⟩;rw [fo];unfold aJ;rw [if_neg λz=>c (vV.mpr z.1)];exact h4
  ·rintro σ H4 ⟨⟨v5,v6,v7,v8,rfl⟩,WQ,h4,⟨aF,Vx,lk,cm⟩,kp⟩;rw [zA,zn] at h4 cm;have e:((ws.map (·.2.w)).foldl aJ (aI k x))=fwd (ps.map (·.2)) (aI k x):=by
    unfold fwd;rw [<-VG,z4];rfl
   rw [e] at h4 cm;exact (zr rfl (zr rfl ⟨by show 2<=sizeLine;omega,λtt OO=>q tt l d aF _ hl (WQ.trans (xi OO)) xb (xi OO _ _ h4) (xi OO _ _ Vx) (cm.aS (bV.new OO))⟩))
theorem DH:aA ["book", "sender", "since", "times", "came"] ["book", "sender", "since"] (av CO):=L2.bQ
theorem Gv (T:Tx K mg a au aj ak ah aq)(B:br mg base):aV P w K mg base cR 3 a.Aw a.AY ["book", "sender", "since"] (RD):=by
 have Dp:=@DY P w _ _ base _ _ _ _ _ _ T B;refine T.AI.ok DH (λvs H Q E h=>?_) (λbZ A outer s H vs Q E hr h=>?_)
 ·obtain ⟨b,k,x,_,_,_,_,rfl,_⟩:=h;rfl
 ·have nd:=DH.nd;have hu:=hr.units;obtain ⟨b,k,x,af,tr,tm,ps,rfl,hk,hb,hn,gd,q⟩:=h;refine ⟨_,(@xo _ _ _ (@xu _ _ _ _ _ _ (wa (xm Dp (hr.mono (by decide)) rfl T.EB T.EC T.ED .nil ay (@xa _ _ _ (@xf _ _ _ _ _ (pv 0) (@xf _ _ _ _ _ (pv 1) (@xf _ _ _ _ _ (pv 2) xp rfl) rfl) rfl))) (wJ (n:=2) rfl rfl (xl (xk (i:=3) nd rfl (by first|exact .inl rfl|exact .inr rfl)) (xl (xk (i:=4) nd rfl (by first|exact .inl rfl|exact .inr rfl)) wF)))) (@wB _ _ _ (@xv _ _ _ _ (pv 3))))),?_⟩;refine (zr rfl (zr rfl (zr rfl (QI b k x af tr tm ps ⟨rfl,hb,hn,gd,λt l d aF H1 hl sm ht h1 _ _=>?_⟩))));exact (Rr ht (zr rfl (q l _ hl sm h1)))
theorem Hb:aA ["book", "letter", "sender", "since", "wish", "last", "times", "came", "chain", "walker", "number"] ["book", "letter"] (av FY):=L2.bQ
theorem DL (T:Tx K mg a au aj ak ah aq)(B:br mg base):aV P w K mg base cR 5 a.BW a.C5 ["book", "letter"] (vE):=by
 have Lh:=@Kd P w _ _ base _ _ _ _ _ _ T B;have J7:=@IW P w _ _ base _ _ _ _ _ _ T B;have Dp:=@DY P w _ _ base _ _ _ _ _ _ T B;refine T.Cq.ok Hb (λvs H Q E h=>?_) (λbZ A outer s H vs Q E hr h=>?_)
 ·obtain ⟨b,lt,_,_,_,_,_,_,_,_,rfl,_⟩:=h;rfl
 ·have nd:=Hb.nd;have hu:=hr.units;obtain ⟨b,lt,s0,w0,a0,z0,af,tr,tm,ps,rfl,hb,hn,gd,hL,qn,qy⟩:=h;refine ⟨_,(@xo _ _ _ (@xu _ _ _ _ _ _ (@wG _ _ _ _ _ _ _ _ (@wq _ _ _ _ (wd (xm J7 (hr.mono (by decide)) rfl T.JI T.JN T.JR .nil ay (@xa _ _ _ (@xf _ _ _ _ _ (pv 0) (@xf _ _ _ _ _ (pv 1) xp rfl) rfl))))) (@xo _ _ _ (@wB _ _ _ (@xv _ _ _ _ je))) wC) (@xu _ _ _ _ _ _ (wa (pv 1) (wJ (n:=4) rfl rfl (xl (xk (i:=2) nd rfl (by first|exact .inl rfl|exact .inr rfl)) (xl (xk (i:=3) nd rfl (by first|exact .inl rfl|exact .inr rfl)) (xl (xk (i:=4) nd rfl (by first|exact .inl rfl|exact .inr rfl)) (xl (xk (i:=5) nd rfl (by first|exact .inl rfl|exact .inr rfl)) wF)))))) (@xu _ _ _ _ _ _ (wa (xm Dp (hr.mono (by decide)) rfl T.EB T.EC T.ED .nil ay (@xa _ _ _ (@xf _ _ _ _ _ (pv 0) (@xf _ _ _ _ _ (pv 2) (@xf _ _ _ _ _ (pv 3) xp rfl) rfl) rfl))) (wJ (n:=2) rfl rfl (xl (xk (i:=6) nd rfl (by first|exact .inl rfl|exact .inr rfl)) (xl (xk (i:=7) nd rfl (by first|exact .inl rfl|exact .inr rfl)) wF)))) (@xu _ _ _ _ _ _ (@wG _ _ _ _ _ _ _ _ (@wq _ _ _ _ (wd (xm Lh (hr.mono (by decide)) rfl T.K5 T.K7 T.La .nil ay (@xa _ _ _ (@xf _ _ _ _ _ (@wE _ _ _ _ _ _ _ (wD rfl) (pv 6) (pv 4) (λ_ _=>rfl)) (@xf _ _ _ _ _ (pv 5) xp rfl) rfl))))) (@xo _ _ _ (@wB _ _ _ (@xv _ _ _ _ je))) wC) (@xu _ _ _ _ _ _ (xq (i:=8) nd rfl (by first|exact .inl rfl|exact .inr rfl) (@wO _ _ _ _ wb)) (@xu _ _ _ _ _ _ (xq (i:=9) nd rfl (by first|exact .inl rfl|exact .inr rfl) (pv 4)) (@xu _ _ _ _ _ _ (@jE _ _ _ _ _ _ PassesOwn.never (@wA _ _ _ _ _ _ _ _ nH (pv 9) (pv 2) (aK _)) (@xo _ _ _ (@xu _ _ _ _ _ _ (wa (MQ (Nat.lt_of_le_of_lt (Nat.add_le_add_left (by decide) _) hu) (pv 7) (pv 9) (λ_ _=>rfl)) (wJ (n:=2) rfl rfl (xl (xk (i:=10) nd rfl (by first|exact .inl rfl|exact .inr rfl)) (xl (xk (i:=9) nd rfl (by first|exact .inl rfl|exact .inr rfl)) wF)))) (@wB _ _ _ (wS (gB zj ze zf wU (pv 8) (@xa _ _ _ (@xf _ _ _ _ _ (pv 10) xp rfl)))))))) (@wB _ _ _ (@xv _ _ _ _ (@Sb _ _ _ _ _ _ _ _ _ rfl (pv 8)))))))))))),?_⟩;have line:=eU;obtain ⟨fk,hs1,hw1,_⟩:=id hL;refine (zr rfl (zr rfl (QI b (.ref lt) _ af tr tm ps ⟨rfl,hb,hL.th,zr rfl (aE (by rw [hL.yes];rfl) ?_)⟩)));refine (zr rfl (Nu fk ?_));refine (zr rfl (zr rfl (zr rfl (QI b s0 a0 af tr tm ps ⟨rfl,hb,hn,gd,λt l d aF H1 hl Rb ht h1 hd cm=>(Rr ht ?_)⟩))));generalize eE:fwd (ps.map (·.2)) (aI s0 a0)=E0 at qn qy h1 cm;have er:=kP (s:=s0) (x:=a0) gd;rw [eE] at er;refine (zr rfl (zr rfl (lC h1 (wI (vL hw1)) (zr rfl ⟨E0 w0,z0,rfl,zr rfl (ug (λc=>?_) (λc=>?_))⟩))))
  ·exact qn (by cases e:cK (E0 w0) z0 with
    | false=>rfl
    | true=>rw [e] at c;cases c) _ Rb
  obtain ⟨ew,hew,lez⟩:∃ e,E0 w0=some e/\e<=z0:=bq.mp (by cases e:cK (E0 w0) z0 with
    | true=>rfl
    | false=>rw [e] at c;cases c)
  refine ⟨zb _,λlc lD=>(zr rfl ?_)⟩;have aal:H lc=none:=Rb.free lD;refine OY (fun σ H4=>∃ (v:Nat) (e:Int) (cs:List Int),∃ v10,σ=[some (.ref b),some (.ref lt),some (.int s0),some (.int a0),some (.int w0),some (.int z0),some (.ref l),some (.ref d),some (.ref lc),some (.int v),v10]/\E0 v=some e/\H4 lc=some (.lst (List.map V.int cs.reverse)) /\
    (∀ b u,b≠lc->H1 b=some u->H4 b=some u)/\cs.length + pW af.length E0 e<=af.length /\
    (∀ A:Int,(A=-1\/∃ n:Nat,∃ m,A=n/\(ps.map (·.2))[n]?=some m/\m.t<=e)->aX (ps.map (·.2)) v e A cs=some (w0,ew)))
   (fun σ _=>mu af.length E0 σ) ?_ ?_ ?_
  ·exact ⟨w0,ew,[],zr rfl ⟨hew,xb,λb u nb e=>by rw [xj nb];exact e,by have:=RZ af.length E0 ew;simpa using this,λA _=>rfl⟩⟩
  ·rintro σ H4 ⟨v,e,cs,v10,rfl,he,hc,kp,lrk,wk⟩;refine (zr rfl (zr rfl ⟨rfl,zr rfl ?_⟩));by_cases hv:v=s0
   ·subst hv;rw [er.self] at he;cases he;refine U9 rfl ?_;refine (zr rfl ⟨lc,zr rfl ⟨aL.of hc,λlr Vm=>?_⟩⟩);have e1:(List.map V.int cs.reverse).reverse=List.map V.int cs:=by rw [<-List.map_reverse,List.reverse_reverse]
    rw [e1];have smH:aB H H4:=λb u eb=>kp b u (xh eb aal) (Rb b u eb);exact qy ew lr cs _ hew lez (smH.free Vm) (smH.trans (xi Vm)) xb (by omega) (wk (-1) (.inl rfl))
   ·refine bH (by have:¬ V.int (v:Int)=V.int (s0:Int):=λz=>hv (by have:=V.int.inj z;omega);simp [this]) ?_;obtain Tu | ⟨tt,n,g,y,c1,c2,c3,c4,c5⟩:=cm v e he
    ·exact absurd Tu hv
    obtain ⟨gi,vi,gv⟩:=c3.inside gd;have hd4:=kp d _ (λz=>by rw [z] at hd;rw [hd] at lD;cases lD) hd;have Ve:=kp tt _ (λz=>by rw [z] at c2;rw [c2] at lD;cases lD) c2;have dg:iU H4 d (.int (v:Int)) (some (.ref tt)):=by
     have:=iU.k (k:=Sum.inl (v:Int)) hd4;rw [c1] at this;exact this
    have rl:=RY gi c4 c5;refine (zr rfl (zr rfl ⟨d,.ref tt,rfl,dg,Rr Ve ?_⟩));refine (zr rfl ⟨.inl ⟨rfl,_,aL.of hc⟩,zr rfl ⟨lc,aO rfl rfl ⟨hc,by rw [zA,List.length_reverse];omega,⟨g,y,(n:Int)::cs,zr rfl ⟨c4,?_,λb u nb eb=>by rw [xj nb];exact kp b u nb eb,by rw [zX];omega,λA hA=>?_⟩⟩,?_⟩⟩⟩)
    ·rw [xb,List.reverse_cons,zI];rfl
    ·obtain ⟨m,hm,mt,_⟩:=id c3;have an:A < n:=by
      rcases hA with rfl | ⟨n',m',rfl,oU,lt'⟩
      ·omega
      ·have:=Qp gd.ord.2 oU hm (by omega);omega
     rw [Nt c3 gv c5 an];exact wk n (.inr ⟨n,m,rfl,hm,by omega⟩)
    ·show mu af.length E0 _ < mu af.length E0 _;unfold mu;simp only [yY,yX,yC,yG,zy,c4,he];exact rl
  ·rintro σ H4 Q1 Q2 hq ⟨x,hx,y,hy,hsc,k1,YS,h⟩;exact ⟨x,hx,y,hy,hsc,k1,YS,hq _ _ h⟩
theorem Ha:aA ["meeting", "sent", "one", "other", "when", "many", "there", "back"] ["meeting", "sent"] (av FX):=L2.bQ
theorem JF (T:Tx K mg a au aj ak ah aq)(B:br mg base):aV P w K mg base cR 1 a.BV a.C4 ["meeting", "sent"] (NO):=by
 refine T.Cp.ok Ha (λvs H Q E h=>?_) (λbZ A outer s H vs Q E hr h=>?_)
 ·obtain ⟨_,_,_,_,_,rfl,_⟩:=h;rfl
 ·have nd:=Ha.nd;have hu:=hr.units;obtain ⟨t,l,m,th,bk,rfl,ht,hl,m0,m1,q⟩:=h;refine ⟨_,(@xo _ _ _ (@xu _ _ _ _ _ _ (wa (pv 0) (wJ (n:=4) rfl rfl (xl (xk (i:=2) nd rfl (by first|exact .inl rfl|exact .inr rfl)) (xl (xk (i:=3) nd rfl (by first|exact .inl rfl|exact .inr rfl)) (xl (xk (i:=4) nd rfl (by first|exact .inl rfl|exact .inr rfl)) (xl (xk (i:=5) nd rfl (by first|exact .inl rfl|exact .inr rfl)) wF)))))) (@xu _ _ _ _ _ _ (wa (pv 1) (R9 (n:=2) rfl (xl (xk (i:=6) nd rfl (by first|exact .inl rfl|exact .inr rfl)) (xl (xk (i:=7) nd rfl (by first|exact .inl rfl|exact .inr rfl)) wF)))) (@xu _ _ _ _ _ _ (@wG _ _ _ _ _ _ _ _ (@wA _ _ _ _ _ _ _ _ eO (pv 6) (pv 7) (aK _)) (@xo _ _ _ (@wB _ _ _ (@xv _ _ _ _ je))) wC) (@wB _ _ _ (@xv _ _ _ _ (@jF _ _ _ _ _ _ _ _ (@wA _ _ _ _ _ _ _ _ nI (pv 6) (pv 7) (aK _)) (pv 2) (pv 3)))))))),?_⟩;refine (zr rfl (Nu ht ?_));refine (zr rfl ⟨l,zr rfl ⟨aL.of hl,rfl,iD rfl (aO rfl rfl ?_)⟩⟩);refine (zr rfl (zr rfl ⟨rfl,zr rfl (jN (λc=>?_) (λc=>?_))⟩))
  ·rw [if_pos (V.int.inj c)] at q;exact q
  ·rw [if_neg λz=>c (by rw [z])] at q;refine (zr rfl (zr rfl (aO rfl rfl (zr rfl (jN (λc=>?_) (λc=>?_))))))
   ·rw [if_pos (show bk < th by omega)] at q;have e:oG (some m.lo.toNat)=V.int m.lo:=by show V.int ((m.lo.toNat:Nat):Int)=_;rw [yu m0]
    rw [e] at q;exact (zr rfl q)
   ·rw [if_neg (show ¬ bk < th by omega)] at q;have e:oG (some m.hi.toNat)=V.int m.hi:=by show V.int ((m.hi.toNat:Nat):Int)=_;rw [yu m1]
    rw [e] at q;exact (zr rfl q)
theorem EJ:aA ["book", "letter", "sender", "since", "wish", "last", "walkers", "stream", "ties", "number", "giver", "other", "when", "point", "sent"] ["book", "letter"] (av ww):=L2.bQ
theorem HL (T:Tx K mg a au aj ak ah aq)(B:br mg base):aV P w K mg base cR 3 a.AQ a.BI ["book", "letter"] (Pg a.Aa):=by
 have D8:=@HM P w _ _ base _ _ _ _ _ _ T B;have KN:=@K1 P w _ _ base _ _ _ _ _ _ T B;have GH:=@F4 P w _ _ base _ _ _ _ _ _ T B;have GG:=@Ip P w _ _ base _ _ _ _ _ _ T B;have IK:=@HP P w _ _ base _ _ _ _ _ _ T B;have IL:=@HQ P w _ _ base _ _ _ _ _ _ T B;have KU:=@JF P w _ _ base _ _ _ _ _ _ T B;refine T.Be.ok EJ (λvs H Q E h=>?_) (λbZ A outer s H vs Q E hr h=>?_)
 ·obtain ⟨_,_,_,_,_,_,_,_,_,_,rfl,_⟩:=h;rfl
 ·have nd:=EJ.nd;have hu:=hr.units;obtain ⟨b,lt,s0,w0,x0,z0,af,tr,tm,ps,rfl,hb,nq,pA,gd,hL,ne,q⟩:=h;refine ⟨_,(@xo _ _ _ (@xu _ _ _ _ _ _ (wa (pv 1) (wJ (n:=4) rfl rfl (xl (xk (i:=2) nd rfl (by first|exact .inl rfl|exact .inr rfl)) (xl (xk (i:=3) nd rfl (by first|exact .inl rfl|exact .inr rfl)) (xl (xk (i:=4) nd rfl (by first|exact .inl rfl|exact .inr rfl)) (xl (xk (i:=5) nd rfl (by first|exact .inl rfl|exact .inr rfl)) wF)))))) (@xu _ _ _ _ _ _ (xq (i:=6) nd rfl (by first|exact .inl rfl|exact .inr rfl) (xw (xx rfl) (by rfl) T.cC PySem.boot_len (@xa _ _ _ (@xf _ _ _ _ _ (@wE _ _ _ _ _ _ _ (wK rfl) (pv 0) xg (λ_ _=>rfl)) xp rfl)))) (@xu _ _ _ _ _ _ (xq (i:=7) nd rfl (by first|exact .inl rfl|exact .inr rfl) (Sd T.Lu GH (hr.mono (by decide)) rfl T.Ln T.GC .nil ay (@xa _ _ _ (@xf _ _ _ _ _ (@xy _ _ _ _ _ _ _ _ wW (pv 6) (@xy _ _ _ _ _ _ _ _ wL (xw (xx rfl) (by rfl) T.cC PySem.boot_len (@xa _ _ _ (@xf _ _ _ _ _ (@wE _ _ _ _ _ _ _ (wK rfl) (pv 0) xg (λ_ _=>rfl)) xp rfl))) xg)) xp rfl)))) (@xu _ _ _ _ _ _ (xq (i:=8) nd rfl (by first|exact .inl rfl|exact .inr rfl) (@wO _ _ _ _ wb)) (@xu _ _ _ _ _ _ (wt PassesOwn.never rfl (@wR _ _ _ _ _ rfl (xm KN (hr.mono (by decide)) rfl T.Ll T.Lo T.Lq .nil ay (@xa _ _ _ (@xf _ _ _ _ _ (pv 0) xp rfl)))) (wJ (n:=4) rfl rfl (xl (xk (i:=9) nd rfl (by first|exact .inl rfl|exact .inr rfl)) (xl (xk (i:=10) nd rfl (by first|exact .inl rfl|exact .inr rfl)) (xl (xk (i:=11) nd rfl (by first|exact .inl rfl|exact .inr rfl)) (xl (xk (i:=12) nd rfl (by first|exact .inl rfl|exact .inr rfl)) wF))))) (@xo _ _ _ (@wB _ _ _ (wS (gB zj ze zf wU (pv 8) (@xa _ _ _ (@xf _ _ _ _ _ (fU (pv 7) T.Ag T.GF GG (hr.mono (by decide)) T.GB .nil ay (@xa _ _ _ (@xf _ _ _ _ _ (@xy _ _ _ _ _ _ _ _ wL (@xy _ _ _ _ _ _ _ _ wW (pv 9) (pv 6)) (pv 10)) (@xf _ _ _ _ _ (@xy _ _ _ _ _ _ _ _ wL (@xy _ _ _ _ _ _ _ _ wL (@xy _ _ _ _ _ _ _ _ wW (pv 9) (pv 6)) (pv 6)) (pv 11)) (@xf _ _ _ _ _ xg xp rfl) rfl) rfl))) xp rfl))))))) (@xu _ _ _ _ _ _ (wt PassesOwn.never rfl (wg rfl T.cN (@xa _ _ _ (@xf _ _ _ _ _ (@xy _ _ _ _ _ _ _ _ wW (pv 6) (xw (xx rfl) (by rfl) T.cC PySem.boot_len (@xa _ _ _ (@xf _ _ _ _ _ (@wE _ _ _ _ _ _ _ (wK rfl) (pv 0) xg (λ_ _=>rfl)) xp rfl)))) xp rfl))) (xk (i:=13) nd rfl (by first|exact .inl rfl|exact .inr rfl)) (@xo _ _ _ (@wB _ _ _ (wS (fU (pv 7) T.Ag T.GF GG (hr.mono (by decide)) T.GB .nil ay (@xa _ _ _ (@xf _ _ _ _ _ (pv 13) (@xf _ _ _ _ _ (@xy _ _ _ _ _ _ _ _ wL (pv 13) (pv 6)) (@xf _ _ _ _ _ xg xp rfl) rfl) rfl))))))) (@xu _ _ _ _ _ _ (wS (fU (pv 7) T.Ag T.IH IL (hr.mono (by decide)) T.IA .nil ay (@xa _ _ _ (@xf _ _ _ _ _ (@xy _ _ _ _ _ _ _ _ wL (@xy _ _ _ _ _ _ _ _ wW (xm D8 (hr.mono (by decide)) rfl T.Fq T.Fs T.Ft .nil ay (@xa _ _ _ (@xf _ _ _ _ _ (pv 0) (@xf _ _ _ _ _ (pv 3) xp rfl) rfl))) (pv 6)) (pv 2)) (@xf _ _ _ _ _ (@xy _ _ _ _ _ _ _ _ wL (@xy _ _ _ _ _ _ _ _ wW (xm D8 (hr.mono (by decide)) rfl T.Fq T.Fs T.Ft .nil ay (@xa _ _ _ (@xf _ _ _ _ _ (pv 0) (@xf _ _ _ _ _ (pv 5) xp rfl) rfl))) (pv 6)) (pv 4)) xp rfl) rfl)))) (@xu _ _ _ _ _ _ (xq (i:=14) nd rfl (by first|exact .inl rfl|exact .inr rfl) (wr (own:=["tie"]) (caps:=[7]) rfl (show aM ["tie"] [7] ["book", "letter", "sender", "since", "wish", "last", "walkers", "stream", "ties", "number", "giver", "other", "when", "point", "sent"] (av ww) _ from L2.iw) (@wR _ _ _ _ _ rfl (pv 8)) (λ_ _ _ _=>(xk (i:=0) (show List.Nodup (["tie", "stream"]:List Str) from by decide +kernel) rfl (by first|exact .inl rfl|exact .inr rfl))) (λ_ _ _ _=>cX) (λ_ _ _ _=>(fU (pv 1) T.Ag T.IG IK (hr.mono (by decide)) T.Iz .nil ay (@xa _ _ _ (@xf _ _ _ _ _ (pv 0) xp rfl)))))) (@wB _ _ _ (@xv _ _ _ _ (wr (own:=["number", "meeting"]) (caps:=[14]) rfl (show aM ["number", "meeting"] [14] ["book", "letter", "sender", "since", "wish", "last", "walkers", "stream", "ties", "number", "giver", "other", "when", "point", "sent"] (av ww) _ from L2.iw) (nG rfl rfl T.dw (@xa _ _ _ (@xf _ _ _ _ _ (@wE _ _ _ _ _ _ _ (wK rfl) (pv 0) xg (λ_ _=>rfl)) xp rfl))) (λ_ _ _ _=>(wJ (n:=2) rfl rfl (xl (xk (i:=0) (show List.Nodup (["number", "meeting", "sent"]:List Str) from by decide +kernel) rfl (by first|exact .inl rfl|exact .inr rfl)) (xl (xk (i:=1) (show List.Nodup (["number", "meeting", "sent"]:List Str) from by decide +kernel) rfl (by first|exact .inl rfl|exact .inr rfl)) wF)))) (λ_ _ _ _=>cX) (λ_ _ _ _=>(xm KU (hr.mono (by decide)) rfl T.Kl T.Ks T.Kz .nil ay (@xa _ _ _ (@xf _ _ _ _ _ (pv 1) (@xf _ _ _ _ _ (@PN _ _ _ _ _ _ _ _ _ _ (Pp rfl) (pv 2) (@qZ _ _ _ (@xy _ _ _ _ _ _ _ _ wW xg (pv 0))) (@qZ _ _ _ (@xy _ _ _ _ _ _ _ _ wL (@xy _ _ _ _ _ _ _ _ wW xg (pv 0)) xg))) xp rfl) rfl)))))))))))))))),?_⟩;have line:3010<=sizeLine:=by rw [sizeLine_eq];decide
  have MZ:=gd.len;have M3:(ps.map (·.2)).length=ps.length:=zA ..;have Rg:(ps.map λa=>V.ref a.1).length=ps.length:=zA ..;obtain ⟨Rb,V6⟩:=NT pA MZ;refine (zr rfl (Nu hL.1 ?_));refine (zr rfl (kE hb.book rfl ⟨tr,zr rfl ⟨.inr (cD.of hb.af),?_⟩⟩));rw [zA];refine (zr rfl (zr rfl (kE hb.book rfl ⟨tm,zr rfl ⟨.inr (cD.of hb.meets),?_⟩⟩)));rw [Rg];refine (aO rfl rfl (aO rfl rfl ⟨.inl ⟨by omega,by omega⟩,λx dx fx fdx ndx=>⟨x,dx,af.length * (ps.length + 1),rfl,xb,by omega,λlA lE lS as H1 b1 Mz fr1=>⟨rfl,?_⟩⟩⟩));have s1:=N8 fx fdx b1;have fr:∀ b∈x::lA::lE::lS::as,H b=none:=λb hb=>by
   rcases zH.mp hb with rfl | hb
   ·exact fx
   ·exact N9 (fr1 b hb)
  have Wl:∀ b∈x::lE::lS::as,b∈x::lA::lE::lS::as:=λb hb=>by
   rcases zH.mp hb with rfl | hb
   ·exact .head _
   ·exact .tail _ (.tail _ hb)
  refine ⟨by show 0<=sizeLine;omega,λla hla=>?_⟩;have YD:la ∉ x::lA::lE::lS::as:=λh=>tN Mz la h hla;have fla:H la=none:=s1.free hla;have s2:=xi (o:=HO.lst []) hla;have h2:upd H1 la (HO.lst []) la=some (.lst []):=xb;generalize upd H1 la (HO.lst [])=H2 at s2 h2 ⊢;have sI:=Mz.same s2;have s02:=s1.trans s2;refine (zr rfl (Za b af tr tm ps ⟨rfl,hb.same s02,gd,λlw ws H3 SA s3 h3 r3 ew=>?_⟩));have olw:lw ∉ x::lA::lE::lS::as:=λh=>tN sI lw h SA;have nlw:lw≠la:=λe=>by rw [e,h2] at SA;cases SA
  have ZV:ws.length=2 * ps.length:=by
   have:=congrArg List.length ew;rw [zA] at this;rw [this,<- zA (f:=ju af.length),<- O7,<- M3,jb _ (zD _)]
  have Zn:∀ y∈ws,y.2.n < ps.length/\y.2.w.g < af.length/\y.2.w.o < af.length:=λy hy=>by
   have:y.2∈dI (ps.map (·.2)) ps.length:=by rw [<-ew];exact zP.mpr ⟨y,hy,rfl⟩
   have:=OZ gd this;rwa [M3] at this
  refine ⟨lw,rfl,⟨_,aL.of h3⟩,?_⟩;refine wv (K:=K) (a:=lw) (xs:=ws.map λy=>V.ref y.1) (λi σ H4=>(∃ o9 W7 W6 W5,σ=[some (.ref b),some (.ref lt),some (.int (s0:Int)),some (.int x0),some (.int (w0:Int)),some (.int z0),some (.int (af.length:Int)),some (.ref x),some (.ref la),o9,W7,W6,W5,none,none])/\aB H H4/\H4 lw=some (.lst (ws.map λy=>V.ref y.1))/\H4 la=some (.lst (iL i))/\(∀ y∈ws,H4 y.1=some (.tup y.2.vs))/\lW a.Aa H4 x dx lA lE lS as 0 (af.length * (ps.length + 1)) ((ws.take i).map λy=>ju af.length y.2) (jc ((ws.take i).map λy=>ju af.length y.2))) ⟨⟨_,_,_,_,rfl⟩,s02.trans s3,h3,s3 _ _ h2,r3,sI.same s3⟩ (λi σ H4 _ h=>aL.of h.2.2.1) ?_ ?_
  ·rintro i v σ H4 hv ⟨⟨o9,W7,W6,W5,rfl⟩,s4,h4w,X3,r4,sE⟩;obtain ⟨y,hy,rfl⟩:=wN hv;have ym:=zB hy;obtain ⟨y1,y2,y3⟩:=Zn y ym;have hi:i < 2 * ps.length:=by rw [<-ZV];exact (zC.mp hy).1
   have eT:(ws.take (i + 1)).map (λy=>ju af.length y.2)=(ws.take i).map (λy=>ju af.length y.2)++[ju af.length y.2]:=by rw [yn,hy,zI];rfl
   have eL:((ws.take i).map λy=>ju af.length y.2).length=i:=by rw [zA,zZ];omega
   have p1:=MN (W:=af.length) (xL y1) y2;have p2:=MN (W:=af.length) (show y.2.n + 1<=ps.length by omega) y3;rw [yS] at p2;refine (Nu (r4 y ym) ?_);refine (zr rfl ⟨.inl ⟨rfl,_,aL.of X3⟩,?_⟩);refine (zr rfl ⟨x,dx,zr rfl ⟨sE.raw.ins,rfl,?_⟩⟩);refine (zr rfl (zr rfl (aO rfl rfl ⟨.inl ⟨by omega,by omega⟩,zr rfl (aO rfl rfl ?_)⟩)));refine (zr rfl (zr rfl (aO rfl rfl ⟨.inl ⟨by omega,by omega⟩,zr rfl (aO rfl rfl (zr rfl (aO rfl rfl ?_)))⟩)));refine ⟨x,dx,lA,lE,lS,as,0,_,_,_,y.2.n * af.length + y.2.w.g,y.2.n * af.length + af.length + y.2.w.o,1,rfl,sE,p1,p2,by decide,by omega,λH5 k5 gM=>?_⟩;rw [eL];have t5:=sE.Ub k5 Wl;have Wi:=k5 _ _ (λh=>YD (Wl _ h)) X3;have h5w:=k5 _ _ (λh=>olw (Wl _ h)) h4w;have s5:=bf.same s4 k5 λb hb=>fr b (Wl b hb);refine ⟨la,aO rfl rfl ⟨Wi,by rw [rK];omega,?_⟩⟩;refine ⟨⟨_,_,_,_,rfl⟩,aB.put fla s5,by rw [xj nlw];exact h5w,by rw [xb,Sw],λy' Tt=>(bV.set Wi) _ _ (t5 _ _ (r4 y' Tt)),?_⟩;rw [eT,sY];exact lW.kept (M:=[la]) gM (bf.upd (.head _)) λb hb h=>YD (by rw [<-zF.mp h];exact hb)
  rintro σ H4 ⟨⟨o9,W7,W6,W5,rfl⟩,s4,_,X3,_,sE⟩;have eW:(ws.take (ws.map λy=>V.ref y.1).length).map (λy=>ju af.length y.2)=iQ (ps.map (·.2)) af.length (ps.map (·.2)).length:=by
   rw [zA,zn,O7,M3,<- ew,z4];rfl
  rw [eW] at sE;rw [zA,ZV] at X3;have XW:=hb.same s4;refine (zr rfl (zr rfl (kE XW.book rfl ⟨tm,zr rfl ⟨.inr (cD.of XW.meets),?_⟩⟩)));rw [Rg];refine (aO rfl rfl ⟨.inl ⟨by omega,by omega⟩,zr rfl ⟨?_,?_,?_⟩⟩)
  ·show -(2 ^ 62)<=((af.length * ps.length:Nat):Int);omega
  ·show ((af.length * ps.length:Nat):Int) < 2 ^ 62;omega
  refine cW (lo:=0) (n:=af.length * ps.length) (λi σ H5=>(∃ o9 W7 W6 W5 o13,σ=[some (.ref b),some (.ref lt),some (.int (s0:Int)),some (.int x0),some (.int (w0:Int)),some (.int z0),some (.int (af.length:Int)),some (.ref x),some (.ref la),o9,W7,W6,W5,o13,none])/\aB H H5/\H5 la=some (.lst (iL (2 * ps.length)))/\lW a.Aa H5 x dx lA lE lS as 0 (af.length * (ps.length + 1)) (iQ (ps.map (·.2)) af.length (ps.map (·.2)).length++(List.range i).map λq=>⟨q,q + af.length,2⟩) (jc (iQ (ps.map (·.2)) af.length (ps.map (·.2)).length++(List.range i).map λq=>⟨q,q + af.length,2⟩))) ⟨⟨_,_,_,_,_,rfl⟩,s4,X3,by rw [List.range_zero,yf,zq];exact sE⟩ ?_ ?_
  ·rintro i σ H5 hi ⟨⟨p9,p10,p11,p12,p13,rfl⟩,s5,Wi,gM⟩;rw [xP];have eL:(iQ (ps.map (·.2)) af.length (ps.map (·.2)).length++(List.range i).map λq=>(⟨q,q + af.length,2⟩:bX)).length=2 * ps.length + i:=by rw [zE,jb _ (zD _),zA,zA,yE]
   have e1:af.length * (ps.length + 1)=af.length * ps.length + af.length:=Nat.mul_succ ..;refine (zr rfl ⟨x,dx,zr rfl ⟨gM.raw.ins,rfl,zr rfl (zr rfl (zr rfl (aO rfl rfl ⟨x,dx,lA,lE,lS,as,0,_,_,_,i,i + af.length,2,rfl,gM,by omega,by omega,by decide,by omega,λH6 k6 qT=>?_⟩)))⟩⟩);refine ⟨⟨_,_,_,_,_,rfl⟩,bf.same s5 k6 λb hb=>fr b (Wl b hb),k6 _ _ (λh=>YD (Wl _ h)) Wi,?_⟩;rw [ND,sY];exact qT
  rintro σ H5 ⟨⟨p9,p10,p11,p12,p13,rfl⟩,s5,Wi,gM⟩;have eT:iQ (ps.map (·.2)) af.length (ps.map (·.2)).length++(List.range (af.length * ps.length)).map (λq=>(⟨q,q + af.length,2⟩:bX))=aR (ps.map (·.2)) af.length:=by unfold aR;rw [M3]
  rw [eT] at gM;have c1:=iz (ps.map (·.2)) x0;have c2:=iz (ps.map (·.2)) z0;rw [M3] at c1 c2;have p1:=MN (W:=af.length) c1 hL.2.1;have p2:=MN (W:=af.length) c2 hL.2.2.1;refine (zr rfl ⟨x,dx,zr rfl ⟨gM.raw.ins,rfl,?_⟩⟩);refine (zr rfl (zr rfl (Wm b x0 af tr tm ps ⟨rfl,hb.same s5,by omega,λH6 s6=>?_⟩)));refine (zr rfl (aO rfl rfl ⟨.inl ⟨by omega,by omega⟩,zr rfl (aO rfl rfl ?_)⟩));have UA:=s5.trans s6;refine (zr rfl (zr rfl (Wm b z0 af tr tm ps ⟨rfl,hb.same UA,by omega,λH7 s7=>?_⟩)));refine (zr rfl (aO rfl rfl ⟨.inl ⟨by omega,by omega⟩,zr rfl (aO rfl rfl ?_)⟩));have s07:=UA.trans s7;have NH:=(gM.same s6).same s7;have h7a:=s7 _ _ (s6 _ _ Wi);refine ⟨x,dx,lA,lE,lS,as,0,_,_,_,cnt (ps.map (·.2)) x0 * af.length + s0,cnt (ps.map (·.2)) z0 * af.length + w0,rfl,NH,p1,p2,λe=>ne ((ny hL.2.1 hL.2.2.1).mp e).2,λtot dM tree H8 k8 My t0 nt tk ng cl=>?_⟩;have m8:∀ b∈[x,lS],b∈x::lA::lE::lS::as:=λb hb=>by
   rcases zH.mp hb with rfl | hb
   ·exact .head _
   ·rw [zF.mp hb];exact .tail _ (.tail _ (.tail _ (.head _)))
  have s08:=bf.same s07 k8 λb hb=>fr b (m8 b hb);have h8a:=k8 _ _ (λh=>YD (m8 _ h)) h7a;have se:Q5 (ps.map (·.2)) af.length s0 w0 x0 z0 dM tot (cO tree):=⟨My.snd,λp=>by rw [nt p,MW,xP],tk.ZM,cl,tk.src,ng⟩;have tl:(aR (ps.map (·.2)) af.length).length=2 * ps.length + af.length * ps.length:=by rw [mP,M3]
  refine (zr rfl ⟨la,rfl,⟨_,aL.of h8a⟩,?_⟩);refine dH (K:=K) (a:=la) (xs:=iL (2 * ps.length)) (λi τ acc H9=>(∃ t0,τ=[t0,some (.ref x)])/\acc=((List.range i).map λk=>V.int (bP dM (2 * k + 1)))/\H9=H8) ⟨⟨_,rfl⟩,rfl,rfl⟩ (by rw [rK];omega) ?_ ?_ ?_
  ·rintro i τ acc H9 ⟨⟨t0,rfl⟩,rfl,rfl⟩;exact ⟨by rw [zA,yE];exact zD _,aL.of h8a⟩
  ·rintro i v τ acc H9 C hv ⟨⟨t0,rfl⟩,rfl,rfl⟩ hC;obtain ⟨hi,rfl⟩:=Xs hv;refine (zr rfl ⟨x,dx,zr rfl ⟨My.raw.ins,rfl,zr rfl ⟨x,dx,lA,lE,lS,as,_,_,_,_,i,rfl,My,by omega,hC _ _ _ ⟨⟨_,rfl⟩,?_,rfl⟩⟩⟩⟩);rw [xH,zI];rfl
  rintro τ acc H9 ⟨_,rfl,rfl⟩ ls fls;rw [rK];have sA:=xi (o:=HO.lst ((List.range (2 * ps.length)).map λk=>V.int (bP dM (2 * k + 1)))) fls;have hA:upd H9 ls (HO.lst ((List.range (2 * ps.length)).map λk=>V.int (bP dM (2 * k + 1)))) ls=some (.lst ((List.range (2 * ps.length)).map λk=>V.int (bP dM (2 * k + 1)))):=xb;generalize upd H9 ls _=HA at sA hA ⊢;have s0A:=s08.trans sA;have YW:=hb.same s0A;refine (zr rfl (kE YW.book rfl ⟨tm,rfl,⟨_,cD.of YW.meets⟩,?_⟩));refine oE (K:=K) (a:=tm) (xs:=ps.map λa=>V.ref a.1) (λi τ acc HB=>(∃ t0 t1,τ=[t0,t1,some (.ref ls)])/\acc=L6 i (cB (ps.map (·.2)) dM)/\aB HA HB) ⟨⟨_,_,rfl⟩,rfl,aB.refl _⟩ (by rw [Rg];omega) ?_ ?_ ?_
  ·rintro i τ acc HB ⟨⟨t0,t1,rfl⟩,rfl,sB⟩;exact ⟨by rw [jO];exact zD _,cD.of (sB _ _ YW.meets)⟩
  ·rintro i v k τ acc HB C hv hk ⟨⟨t0,t1,rfl⟩,rfl,sB⟩ hC;obtain ⟨r,hr,rfl⟩:=wN hv;have hi:i < ps.length:=(zC.mp hr).1;have hm:(ps.map (·.2))[i]?=some r.2:=by rw [zS,hr];rfl
   obtain ⟨b1,b2,b3,_⟩:=gd.each r.2 (zB hm);have sC:=sB.trans (xi (o:=HO.tup [V.int (i:Int),V.ref r.1]) hk);have kC:upd HB k (HO.tup [V.int (i:Int),V.ref r.1]) k=some (.tup [V.int (i:Int),V.ref r.1]):=xb;generalize upd HB k _=HC at sC kC ⊢;refine (Rr kC ?_);refine (zr rfl (zr rfl (zr rfl (aO rfl rfl ⟨.inl ⟨by decide,by decide⟩,?_⟩))));refine (zr rfl (zr rfl (aO rfl rfl ⟨.inl ⟨by decide,by decide⟩,aO rfl rfl (zr rfl ⟨ls,zr rfl ⟨aL.of (sC _ _ hA),λlp XE=>?_⟩⟩)⟩)));have ec:=SV (f:=λk=>V.int (bP dM (2 * k + 1))) (show 2 * i + 2<=2 * ps.length by omega);have ec:Mh ((List.range (2 * ps.length)).map λk=>V.int (bP dM (2 * k + 1))) (some (2 * (i:Int))) (some (2 * (i:Int) + 2))=[V.int (gQ dM i),V.int (iB dM i)]:=ec;rw [ec];have sD:=sC.trans (xi (o:=HO.lst [V.int (gQ dM i),V.int (iB dM i)]) XE);refine ⟨r.1,lp,r.2,gQ dM i,iB dM i,rfl,sD _ _ (YW.rows r (zB hr)),xb,b1,by omega,hC _ _ _ ⟨⟨_,_,rfl⟩,?_,sD⟩⟩;rw [n9];congr 2;unfold cB;have el:aT (ps.map (·.2)) i=r.2.lo.toNat:=by unfold aT;rw [hm];rfl
   have eh:aU (ps.map (·.2)) i=r.2.hi.toNat:=by unfold aU;rw [hm];rfl
   rw [el,eh]
  ·rintro τ acc HB ⟨⟨t0,t1,rfl⟩,rfl,sB⟩ lc lD;rw [Rg];have sC:=s0A.trans sB;exact q lc dM tot (cO tree) _ (sC.trans (xi lD)) (sC.free lD) xb se
theorem Hc:aA ["book", "letter", "givers", "sender", "since", "wish", "last", "holder", "chain", "number"] ["book", "letter", "givers"] (av FZ):=L2.bQ
theorem JG (T:Tx K mg a au aj ak ah aq)(B:br mg base):aV P w K mg base cR 2 a.BX a.C6 ["book", "letter", "givers"] (NP):=by
 have D8:=@HM P w _ _ base _ _ _ _ _ _ T B;have KO:=@JA P w _ _ base _ _ _ _ _ _ T B;refine T.Cr.ok Hc (λvs H Q E h=>?_) (λbZ A outer s H vs Q E hr h=>?_)
 ·obtain ⟨_,_,_,_,_,_,_,_,_,_,_,_,rfl,_⟩:=h;rfl
 ·have nd:=Hc.nd;have hu:=hr.units;obtain ⟨b,lt,lg,s0,w0,x,z,af,tr,tm,ps,g,rfl,hb,rn,gd,hL,hg,gi,q⟩:=h;refine ⟨_,(@xo _ _ _ (@xu _ _ _ _ _ _ (wa (pv 1) (wJ (n:=4) rfl rfl (xl (xk (i:=3) nd rfl (by first|exact .inl rfl|exact .inr rfl)) (xl (xk (i:=4) nd rfl (by first|exact .inl rfl|exact .inr rfl)) (xl (xk (i:=5) nd rfl (by first|exact .inl rfl|exact .inr rfl)) (xl (xk (i:=6) nd rfl (by first|exact .inl rfl|exact .inr rfl)) wF)))))) (@xu _ _ _ _ _ _ (xq (i:=7) nd rfl (by first|exact .inl rfl|exact .inr rfl) (pv 3)) (@xu _ _ _ _ _ _ (xq (i:=8) nd rfl (by first|exact .inl rfl|exact .inr rfl) (@wO _ _ _ _ wb)) (@xu _ _ _ _ _ _ (wt PassesOwn.never rfl (pZ rfl T.cN (@xa _ _ _ (@xf _ _ _ _ _ (xm D8 (hr.mono (by decide)) rfl T.Fq T.Fs T.Ft .nil ay (@xa _ _ _ (@xf _ _ _ _ _ (pv 0) (@xf _ _ _ _ _ (pv 4) xp rfl) rfl))) (@xf _ _ _ _ _ (xm D8 (hr.mono (by decide)) rfl T.Fq T.Fs T.Ft .nil ay (@xa _ _ _ (@xf _ _ _ _ _ (pv 0) (@xf _ _ _ _ _ (pv 6) xp rfl) rfl))) xp rfl) rfl))) (xk (i:=9) nd rfl (by first|exact .inl rfl|exact .inr rfl)) (@xo _ _ _ (@wB _ _ _ (@wG _ _ _ _ _ _ _ _ (@wA _ _ _ _ _ _ _ _ eO (@wE _ _ _ _ _ _ _ (wD rfl) (pv 2) (pv 9) (λ_ _=>rfl)) (pv 7) (aK _)) (@xo _ _ _ (@xu _ _ _ _ _ _ (wS (gB zj ze zf wU (pv 8) (@xa _ _ _ (@xf _ _ _ _ _ (pv 9) xp rfl)))) (@wB _ _ _ (xq (i:=7) nd rfl (by first|exact .inl rfl|exact .inr rfl) (xm KO (hr.mono (by decide)) rfl T.Kg T.Kn T.Ku .nil ay (@xa _ _ _ (@xf _ _ _ _ _ (pv 0) (@xf _ _ _ _ _ (pv 9) (@xf _ _ _ _ _ (pv 7) xp rfl) rfl) rfl))))))) wC)))) (@wB _ _ _ (@xv _ _ _ _ (pv 8)))))))),?_⟩;have line:3010<=sizeLine:=by rw [sizeLine_eq];decide
  have MZ:=gd.len;have M3:(ps.map (·.2)).length=ps.length:=zA ..;refine (zr rfl (Nu hL.1 ?_));refine (zr rfl ?_);refine ⟨by show 0<=sizeLine;omega,λlc lD=>?_⟩;have s1:=xi (o:=HO.lst []) lD;have h1:upd H lc (HO.lst []) lc=some (.lst []):=xb;generalize upd H lc (HO.lst [])=H1 at *;have c1:=iz (ps.map (·.2)) x;have c2:=iz (ps.map (·.2)) z;refine (zr rfl (zr rfl (Wm b x af tr tm ps ⟨rfl,hb.same s1,by omega,λH2 s2=>?_⟩)));refine (zr rfl (zr rfl (Wm b z af tr tm ps ⟨rfl,hb.same (s1.trans s2),by omega,λH3 s3=>?_⟩)));have s13:=s2.trans s3;have h3:=s13 _ _ h1;have s03:=s1.trans s13;refine (iD rfl ⟨⟨by omega,by omega,by omega,by omega⟩,?_⟩);have eN:(((cnt (ps.map (·.2)) z:Nat):Int) - ((cnt (ps.map (·.2)) x:Nat):Int)).toNat=cnt (ps.map (·.2)) z - cnt (ps.map (·.2)) x:=by omega
  refine cW (lo:=((cnt (ps.map (·.2)) x:Nat):Int)) (λk σ H4=>(∃ o9,σ=[some (.ref b),some (.ref lt),some (.ref lg),some (.int (s0:Int)),some (.int x),some (.int (w0:Int)),some (.int z),some (.int ((aG (aT (ps.map (·.2))) (aU (ps.map (·.2))) g (cnt (ps.map (·.2)) x) s0 k).2:Int)),some (.ref lc),o9])/\aB H H4/\H4 lc=some (.lst (List.map V.int (aG (aT (ps.map (·.2))) (aU (ps.map (·.2))) g (cnt (ps.map (·.2)) x) s0 k).1))) ⟨⟨_,rfl⟩,s03,h3⟩ ?_ ?_
  ·rintro k σ H4 hk ⟨⟨o9,rfl⟩,s4,h4⟩;have rM:cnt (ps.map (·.2)) x + k < ps.length:=by omega
   obtain ⟨m,hm⟩:∃ m,(ps.map (·.2))[cnt (ps.map (·.2)) x + k]?=some m:=⟨_,zL (by omega)⟩;have en:((cnt (ps.map (·.2)) x:Nat):Int) + (k:Int)=((cnt (ps.map (·.2)) x + k:Nat):Int):=by omega
   rw [en];have kk:=pU (lo:=aT (ps.map (·.2))) (hi:=aU (ps.map (·.2))) (g:=g) (a:=cnt (ps.map (·.2)) x) (s0:=s0) (K:=k);by_cases c:g (cnt (ps.map (·.2)) x + k)=some (aG (aT (ps.map (·.2))) (aU (ps.map (·.2))) g (cnt (ps.map (·.2)) x) s0 k).2
   ·have er:=jz c;have gi':=gi _ _ rM c;have mv:((cU (aT (ps.map (·.2))) (aU (ps.map (·.2))) g (cnt (ps.map (·.2)) x + k) (aG (aT (ps.map (·.2))) (aU (ps.map (·.2))) g (cnt (ps.map (·.2)) x) s0 k).2:Nat):Int)=if ((aG (aT (ps.map (·.2))) (aU (ps.map (·.2))) g (cnt (ps.map (·.2)) x) s0 k).2:Int)=m.lo then m.hi else m.lo:=by
     obtain ⟨b1,b2,b3,_⟩:=gd.each m (zB hm);have el:aT (ps.map (·.2)) (cnt (ps.map (·.2)) x + k)=m.lo.toNat:=by unfold aT;rw [hm];rfl
     have eh:aU (ps.map (·.2)) (cnt (ps.map (·.2)) x + k)=m.hi.toNat:=by unfold aU;rw [hm];rfl
     unfold cU;rw [if_pos c,el,eh];generalize (aG (aT (ps.map (·.2))) (aU (ps.map (·.2))) g (cnt (ps.map (·.2)) x) s0 k).2=v;by_cases d:v=m.lo.toNat
     ·rw [if_pos d,if_pos (by omega)];omega
     ·rw [if_neg d,if_neg (by omega)];omega
    rw [er,mv];generalize aG (aT (ps.map (·.2))) (aU (ps.map (·.2))) g (cnt (ps.map (·.2)) x) s0 k=r at *;refine (zr rfl (zr rfl (lC (s4 _ _ hg) (wI (L5 rM)) (zr rfl ?_))));rw [c];refine ⟨rfl,zr rfl (bH (by simp [oG,oV]) ?_)⟩;refine (zr rfl ⟨.inl ⟨rfl,_,aL.of h4⟩,zr rfl ⟨lc,aO rfl rfl ⟨h4,by rw [zA];omega,?_⟩⟩⟩);have s5:aB H (upd H4 lc (.lst (List.map V.int r.1++[V.int ((cnt (ps.map (·.2)) x + k:Nat):Int)]))):=aB.put lD s4;have h5:upd H4 lc (.lst (List.map V.int r.1++[V.int ((cnt (ps.map (·.2)) x + k:Nat):Int)])) lc=some (.lst (List.map V.int (r.1++[((cnt (ps.map (·.2)) x + k:Nat):Int)]))):=by rw [xb,zI];rfl
    generalize upd H4 lc _=H5 at s5 h5 ⊢;exact (zr rfl (zr rfl (zr rfl (ex8 b _ _ af tr tm ps m ⟨rfl,hb.same s5,hm,⟨⟨_,rfl⟩,s5,h5⟩⟩))))
   ·have er:=nh c;rw [er];generalize aG (aT (ps.map (·.2))) (aU (ps.map (·.2))) g (cnt (ps.map (·.2)) x) s0 k=r at *;refine (zr rfl (zr rfl (lC (s4 _ _ hg) (wI (L5 rM)) (zr rfl ?_))));cases e:g (cnt (ps.map (·.2)) x + k) with
    | none=>exact ⟨rfl,zr rfl (aE rfl ⟨⟨_,rfl⟩,s4,h4⟩)⟩
    | some v=>
     rw [e] at c;refine ⟨rfl,zr rfl (aE (decide_eq_false λzz=>c ?_) ⟨⟨_,rfl⟩,s4,h4⟩)⟩;have this:(v:Int)=(r.2:Int):=V.int.inj zz;congr 1;omega
  ·rintro σ H4 ⟨⟨o9,rfl⟩,s4,h4⟩;rw [eN] at h4;exact (zr rfl (q lc H4 s4 lD h4))
theorem FK:aA ["book", "letter", "givers", "one", "rest"] ["book", "letter"] (av Dt):=L2.bQ
theorem Ij (T:Tx K mg a au aj ak ah aq)(B:br mg base):aV P w K mg base cR 4 a.A6 a.B9 ["book", "letter"] (RC a.Aa):=by
 have II:=@HL P w _ _ base _ _ _ _ _ _ T B;have Ii:=@JG P w _ _ base _ _ _ _ _ _ T B;refine T.BC.ok FK (λvs H Q E h=>?_) (λbZ A outer s H vs Q E hr h=>?_)
 ·obtain ⟨_,_,_,_,_,_,_,_,_,_,_,_,rfl,_⟩:=h;rfl
 ·have nd:=FK.nd;have hu:=hr.units;obtain ⟨b,lt,s0,w0,x,z,af,tr,tm,ps,e,ns,rfl,hb,nq,pA,gd,hL,ne,wk,le,hn,q⟩:=h;refine ⟨_,(@xo _ _ _ (@xu _ _ _ _ _ _ (xq (i:=2) nd rfl (by first|exact .inl rfl|exact .inr rfl) (xm II (hr.mono (by decide)) rfl T.Iq T.Iv T.Ix .nil ay (@xa _ _ _ (@xf _ _ _ _ _ (pv 0) (@xf _ _ _ _ _ (pv 1) xp rfl) rfl)))) (@xu _ _ _ _ _ _ (xq (i:=3) nd rfl (by first|exact .inl rfl|exact .inr rfl) (xm Ii (hr.mono (by decide)) rfl T.HS T.HV T.HZ .nil ay (@xa _ _ _ (@xf _ _ _ _ _ (pv 0) (@xf _ _ _ _ _ (pv 1) (@xf _ _ _ _ _ (pv 2) xp rfl) rfl) rfl)))) (@xu _ _ _ _ _ _ (fT (ix:=4) nd rfl (by first|exact .inl rfl|exact .inr rfl) (own:=["number", "giver"]) (caps:=[3]) rfl (show aM ["number", "giver"] [3] ["book", "letter", "givers", "one", "rest"] (av Dt) _ from L2.iw) (tM rfl rfl T.dw (@xa _ _ _ (@xf _ _ _ _ _ (pv 2) xp rfl))) (λ_ _ _ _=>(wJ (n:=2) rfl rfl (xl (xk (i:=0) (show List.Nodup (["number", "giver", "one"]:List Str) from by decide +kernel) rfl (by first|exact .inl rfl|exact .inr rfl)) (xl (xk (i:=1) (show List.Nodup (["number", "giver", "one"]:List Str) from by decide +kernel) rfl (by first|exact .inl rfl|exact .inr rfl)) wF)))) (λ_ _ _ _=>cX) (λ_ _ _ _=>(@jF _ _ _ _ _ _ _ _ (@wA _ _ _ _ _ _ _ _ (fW rfl) (pv 0) (pv 2) rfl) je (pv 1)))) (@wB _ _ _ (@xv _ _ _ _ (@wT _ _ _ _ _ (@xa _ _ _ (@xf _ _ _ _ _ (pv 3) (@xf _ _ _ _ _ (xm Ii (hr.mono (by decide)) rfl T.HS T.HV T.HZ .nil ay (@xa _ _ _ (@xf _ _ _ _ _ (pv 0) (@xf _ _ _ _ _ (pv 1) (@xf _ _ _ _ _ (pv 4) xp rfl) rfl) rfl))) xp rfl) rfl))))))))),?_⟩;have line:3010<=sizeLine:=by rw [sizeLine_eq];decide
  have MZ:=gd.len;refine (zr rfl (zr rfl (SN b lt s0 w0 x z af tr tm ps ⟨rfl,hb,nq,pA,gd,hL,ne,λlg sp tot S H1 s1 fg hg se=>?_⟩)));obtain ⟨p1,p2,p3⟩:=qQ gd hL.2.1 hL.2.2.1 ne wk le hn se.so se.nt se.nd se.cl se.h0 se.hg;refine (zr rfl (zr rfl (zr rfl (Yd b lt lg s0 w0 x z af tr tm ps _ ⟨rfl,hb.same s1,by omega,gd,hL.same s1,hg,λi v _ h=>rO i v h,λl1 H2 s2 f1 h2=>?_⟩))));generalize eC1:(aG (aT (ps.map (·.2))) (aU (ps.map (·.2))) (cB (ps.map (·.2)) sp) (cnt (ps.map (·.2)) x) s0 (cnt (ps.map (·.2)) z - cnt (ps.map (·.2)) x)).1=C1 at *;have hg2:=s2 _ _ hg;have Yy:=s1.trans s2;refine (zr rfl ⟨lg,rfl,⟨_,aL.of hg2⟩,?_⟩);refine oF (K:=K) (a:=lg) (xs:=L6 ps.length (cB (ps.map (·.2)) sp)) (λi τ acc H5=>(∃ t0 t1,τ=[t0,t1,some (.ref l1)])/\acc=L6 i (cM (cB (ps.map (·.2)) sp) C1)/\aB H2 H5) ⟨⟨_,_,rfl⟩,rfl,aB.refl _⟩ (by rw [jO];omega) ?_ ?_ ?_
  ·rintro i τ acc H5 ⟨⟨t0,t1,rfl⟩,rfl,sm⟩;exact ⟨by rw [jO];exact zD _,aL.of (sm _ _ hg2)⟩
  ·rintro i v k τ acc H5 C hx hk ⟨⟨t0,t1,rfl⟩,rfl,sm⟩ hC;have hi:i < ps.length:=by have:=(zC.mp hx).1;rwa [jO] at this
   obtain rfl:oG (cB (ps.map (·.2)) sp i)=v:=by rw [L5 hi] at hx;exact Option.some.inj hx
   have s5:=sm.trans (xi (o:=HO.tup [V.int (i:Int),oG (cB (ps.map (·.2)) sp i)]) hk);refine (Rr xb ?_);refine (zr rfl (zr rfl ⟨l1,zr rfl ⟨.inl (aL.of (s5 _ _ h2)),rfl,?_,zr rfl ?_⟩⟩))
   ·rw [yj];intro y hy;obtain ⟨n,_,rfl⟩:=zP.mp hy;rfl
   have ein:sL (.int (i:Int)) (List.map V.int C1)=decide ((i:Int)∈C1):=by
    rw [xF,decide_eq_true_eq];unfold sL;rw [List.any_eq_true];constructor
    ·rintro ⟨y,hy,h⟩;obtain ⟨n,Rj,rfl⟩:=zP.mp hy;rw [rT] at h;have:=of_decide_eq_true h;rw [<-this];exact Rj
    ·intro h;exact ⟨_,zP.mpr ⟨_,h,rfl⟩,by rw [rT];exact decide_eq_true rfl⟩
   by_cases c:(i:Int)∈C1
   ·refine bH (by show sL _ _=true;rw [ein];exact decide_eq_true c) ?_;exact hC _ _ _ ⟨⟨_,_,rfl⟩,by rw [n9,show oG (cM (cB (ps.map (·.2)) sp) C1 i)=V.cI from by unfold cM;rw [if_pos c];rfl],s5⟩
   ·refine aE (by show sL _ _=false;rw [ein];exact decide_eq_false c) ?_;exact (zr rfl (hC _ _ _ ⟨⟨_,_,rfl⟩,by rw [n9,show cM (cB (ps.map (·.2)) sp) C1 i=cB (ps.map (·.2)) sp i from by unfold cM;rw [if_neg c]],s5⟩))
  ·rintro τ acc H5 ⟨⟨t0,t1,rfl⟩,rfl,sm⟩ lc lD;rw [jO];have s6:=sm.trans (xi (o:=HO.lst (L6 ps.length (cM (cB (ps.map (·.2)) sp) C1))) lD);have h6:upd H5 lc (HO.lst (L6 ps.length (cM (cB (ps.map (·.2)) sp) C1))) lc=some (.lst (L6 ps.length (cM (cB (ps.map (·.2)) sp) C1))):=xb;generalize upd H5 lc _=H6 at s6 h6 ⊢;have UA:=Yy.trans s6;refine (zr rfl (zr rfl (zr rfl (zr rfl (Yd b lt lc s0 w0 x z af tr tm ps _ ⟨rfl,hb.same UA,by omega,gd,hL.same UA,h6,?_,λl2 H7 s7 f2 h7=>?_⟩)))))
   ·intro i v _ h;unfold cM at h;split at h
    ·cases h
    ·exact rO i v h
   refine ⟨by show 2<=sizeLine;omega,λt ht=>?_⟩;have s8:=s7.trans (xi (o:=HO.tup [V.ref l1,V.ref l2]) ht);have TQ:=s8 _ _ (s6 _ _ h2);refine q t l1 l2 _ _ _ (UA.trans s8) xb ⟨?_,s1.free f1,UA.free f2,TQ,?_,p1,p2,p3⟩
   ·intro e;rw [<-e,s6 _ _ h2] at f2;cases f2
   ·exact xi ht _ _ h7
theorem IM:aA ["book", "letter", "sender", "since", "wish", "last", "chain", "number", "rest", "one", "other"] ["book", "letter"] (av HK):=L2.bQ
theorem K4 (T:Tx K mg a au aj ak ah aq)(B:br mg base):aV P w K mg base cR 6 a.Dk a.D4 ["book", "letter"] (Pc a.tP cg):=by
 have D6:=@F3 P w _ _ base _ _ _ _ _ _ T B;have D7:=@Gv P w _ _ base _ _ _ _ _ _ T B;have BB:=@DL P w _ _ base _ _ _ _ _ _ T B;have Jv:=@Ij P w _ _ base _ _ _ _ _ _ T B;refine T.DG.ok IM (λvs H Q E h=>?_) (λbZ A outer s H vs Q E hr h=>?_)
 ·obtain ⟨_,_,_,_,_,_,_,_,_,_,rfl,_⟩:=h;rfl
 ·have nd:=IM.nd;have hu:=hr.units;obtain ⟨b,lt,s0,w0,x0,z0,af,tr,tm,ps,rfl,hb,nq,pA,sJ,gd,hL,mt,q⟩:=h;refine ⟨_,(@xo _ _ _ (@xu _ _ _ _ _ _ (wa (pv 1) (wJ (n:=4) rfl rfl (xl (xk (i:=2) nd rfl (by first|exact .inl rfl|exact .inr rfl)) (xl (xk (i:=3) nd rfl (by first|exact .inl rfl|exact .inr rfl)) (xl (xk (i:=4) nd rfl (by first|exact .inl rfl|exact .inr rfl)) (xl (xk (i:=5) nd rfl (by first|exact .inl rfl|exact .inr rfl)) wF)))))) (@xu _ _ _ _ _ _ (xq (i:=6) nd rfl (by first|exact .inl rfl|exact .inr rfl) (xm BB (hr.mono (by decide)) rfl T.CQ T.CS T.CU .nil ay (@xa _ _ _ (@xf _ _ _ _ _ (pv 0) (@xf _ _ _ _ _ (pv 1) xp rfl) rfl)))) (@xu _ _ _ _ _ _ (@wG _ _ _ _ _ _ _ _ (nB (@rB _ _ _ _ _ (pv 6))) (@xo _ _ _ (@wB _ _ _ (@xv _ _ _ _ (@wT _ _ _ _ _ (@xa _ _ _ (@xf _ _ _ _ _ gY (@xf _ _ _ _ _ (xm D7 (hr.mono (by decide)) rfl T.DZ T.D1 T.D2 .nil ay (@xa _ _ _ (@xf _ _ _ _ _ (pv 0) (@xf _ _ _ _ _ (pv 2) (@xf _ _ _ _ _ (pv 3) xp rfl) rfl) rfl))) xp rfl) rfl)))))) wC) (@xu _ _ _ _ _ _ (@wG _ _ _ _ _ _ _ _ (@wA _ _ _ _ _ _ _ _ eO (pv 2) (pv 4) (aK _)) (@xo _ _ _ (@wB _ _ _ (@xv _ _ _ _ (@wT _ _ _ _ _ (@xa _ _ _ (@xf _ _ _ _ _ gY (@xf _ _ _ _ _ (@wO _ _ _ _ wb) (@xf _ _ _ _ _ (@wO _ _ _ _ wb) xp rfl) rfl) rfl)))))) wC) (@xu _ _ _ _ _ _ (wt PassesOwn.never rfl (@wR _ _ _ _ _ rfl (pv 6)) (xk (i:=7) nd rfl (by first|exact .inl rfl|exact .inr rfl)) (@xo _ _ _ (@xu _ _ _ _ _ _ (xq (i:=8) nd rfl (by first|exact .inl rfl|exact .inr rfl) (xm D6 (hr.mono (by decide)) rfl T.GR T.GT T.GU .nil ay (@xa _ _ _ (@xf _ _ _ _ _ (pv 0) (@xf _ _ _ _ _ (pv 7) xp rfl) rfl)))) (@wB _ _ _ (@wG _ _ _ _ _ _ _ _ (nB (@rB _ _ _ _ _ (xm BB (hr.mono (by decide)) rfl T.CQ T.CS T.CU .nil ay (@xa _ _ _ (@xf _ _ _ _ _ (pv 8) (@xf _ _ _ _ _ (pv 1) xp rfl) rfl))))) (@xo _ _ _ (@wB _ _ _ (@xv _ _ _ _ (@wT _ _ _ _ _ (@xa _ _ _ (@xf _ _ _ _ _ gY (@xf _ _ _ _ _ (pv 7) (@xf _ _ _ _ _ (xm D7 (hr.mono (by decide)) rfl T.DZ T.D1 T.D2 .nil ay (@xa _ _ _ (@xf _ _ _ _ _ (pv 8) (@xf _ _ _ _ _ (pv 2) (@xf _ _ _ _ _ (pv 3) xp rfl) rfl) rfl))) xp rfl) rfl) rfl)))))) wC))))) (@xu _ _ _ _ _ _ (wa (xm Jv (hr.mono (by decide)) rfl T.Jb T.Jf T.Jj .nil ay (@xa _ _ _ (@xf _ _ _ _ _ (pv 0) (@xf _ _ _ _ _ (pv 1) xp rfl) rfl))) (wJ (n:=2) rfl rfl (xl (xk (i:=9) nd rfl (by first|exact .inl rfl|exact .inr rfl)) (xl (xk (i:=10) nd rfl (by first|exact .inl rfl|exact .inr rfl)) wF)))) (@wB _ _ _ (@xv _ _ _ _ (@wT _ _ _ _ _ (@xa _ _ _ (@xf _ _ _ _ _ gY (@xf _ _ _ _ _ (pv 9) (@xf _ _ _ _ _ (pv 10) xp rfl) rfl) rfl)))))))))))),?_⟩;have line:3010<=sizeLine:=by rw [sizeLine_eq];decide
  have MZ:=gd.len;have M3:(ps.map (·.2)).length=ps.length:=zA ..;refine ⟨_,rfl,lt,_,rfl,cD.of hL.1,rfl,_,_,rfl,_,_,rfl,_,_,rfl,_,_,rfl,rfl,?_⟩;refine ⟨_,rfl,_,rfl,b,lt,s0,w0,x0,z0,af,tr,tm,ps,rfl,hb,by omega,gd,hL,λno H1 s1=>?_,λe l ns H1 fe le fl s1 h1 nl wk=>?_⟩
  ·refine ⟨_,rfl,_,rfl,bH rfl ⟨_,rfl,_,rfl,_,rfl,b,s0,x0,af,tr,tm,ps,rfl,hL.2.1,hb.same s1,by omega,gd,λl H2 fl s2 M8=>⟨by show 2<=sizeLine;omega,λt ht=>?_⟩⟩⟩;have s3:=(s1.trans s2).trans (xi (o:=HO.tup [V.str "none", V.ref l]) ht);exact q t _ (λx u _ e=>s3 _ _ e) (L2.MT.same mt s3) (.inl ⟨no,l,xb,s1.free fl,xi ht _ _ M8⟩)
  have mj:=hb.same s1;have t6:=L2.MT.same mt s1;have yes:cK (fwd (ps.map (·.2)) (aI s0 x0) w0) z0=true:=bq.mpr ⟨e,fe,le⟩;have xz:x0<=z0:=by have:=iE wk;omega
  refine ⟨_,rfl,_,rfl,aE rfl ⟨_,rfl,_,rfl,rfl,_,rfl,?_⟩⟩;by_cases sw:s0=w0
  ·refine bH (by rw [sw];exact decide_eq_true rfl) ?_;refine ⟨by show 0<=sizeLine;omega,λl1 XJ=>⟨by show 0<=sizeLine;omega,λl2 M8=>⟨by show 3<=sizeLine;omega,λt ht=>?_⟩⟩⟩;have k1:=xi (o:=HO.lst []) XJ;have k2:=xi (o:=HO.lst []) M8;have k3:=xi (o:=HO.tup [V.str "two", V.ref l1,V.ref l2]) ht;have s4:=s1.trans (k1.trans (k2.trans k3));refine q t _ (λx u _ e=>s4 _ _ e) (L2.MT.same mt s4) (.inr (.inr ⟨l1,l2,[],[],xb,Nx sw xz ?_ (s1.free XJ) ((s1.trans k1).free M8) (k3 _ _ (k2 _ _ xb)) (k3 _ _ xb)⟩));intro z;rw [<-z,xb] at M8;cases M8
  ·refine aE (decide_eq_false λz=>sw (by have:=V.int.inj z;omega)) ?_;refine ⟨_,rfl,l,rfl,⟨_,aL.of h1⟩,?_⟩;refine wv (K:=K) (a:=l) (xs:=List.map V.int ns) (λi σ H5=>(∃ o7 o8,σ=[some (.ref b),some (.ref lt),some (.int (s0:Int)),some (.int x0),some (.int (w0:Int)),some (.int z0),some (.ref l),o7,o8,none,none])/\bY a.tP H1 H5/\MT a.tP cg dS H5/\∀ n:Nat,(n:Int)∈ns.take i->cK (fwd ((ps.map (·.2)).eraseIdx n) (aI s0 x0) w0) z0=true) ⟨⟨_,_,rfl⟩,bY.refl _ _,t6,λn h=>nomatch h⟩ (λi σ H5 _ h=>MT.seq t6 h.2.1 (aL.of h1)) ?_ ?_
   ·rintro i v σ H5 hv ⟨⟨o7,o8,rfl⟩,b5,UT,S1⟩;obtain ⟨n,hn,rfl⟩:=wN hv;obtain ⟨k,m,rfl,hm⟩:=kW wk n (zB hn);have hk:k < ps.length:=by have:=(zC.mp hm).1;rwa [M3] at this
    have t5:=MT.fz t6 b5;have XU:=mj.aS t5;refine ⟨_,rfl,_,rfl,b,k,af,tr,tm,ps,rfl,XU,hk,nq,pA,sJ,gd,UT,λb' lY lZ fF H6 b6 Tn Rm e6=>?_⟩;have gd6:Good af.length (fF.map (·.2)):=by rw [e6];exact gd.sub (yP _ _)
    have Wh:=hL.same s1;have Wg:dY H6 lt af.length s0 w0 x0 z0:=⟨(MT.fz UT b6) _ _ (t5 _ _ Wh.1),hL.2⟩;have VT:bY a.tP H1 H6:=b5.trans b6;refine ⟨_,rfl,_,rfl,b',lt,s0,w0,x0,z0,af,lY,lZ,fF,rfl,Rm,by omega,gd6,Wg,λno H7 s7=>?_,λe2 l2 ns2 H7 fe2 Z0 _ s7 _ _ _=>?_⟩
    ·refine ⟨_,rfl,bH rfl ⟨_,rfl,_,rfl,_,rfl,_,rfl,b',s0,x0,af,lY,lZ,fF,rfl,hL.2.1,Rm.same s7,by omega,gd6,λl3 H8 f3 s8 h8=>⟨by show 3<=sizeLine;omega,λt ht=>?_⟩⟩⟩;have k3:=xi (o:=HO.tup [V.str "one", V.int (k:Int),V.ref l3]) ht;have s68:=(s7.trans s8).trans k3;have bb:bY a.tP H _:=λx u n e=>s68 _ _ (VT x u n (s1 _ _ e));rw [e6] at no h8;exact q t _ bb (L2.MT.same Tn s68) (.inr (.inl ⟨yes,k,l3,by rw [M3];exact hk,no,xb,s1.free (MT.free Tn VT (s7.free f3)),k3 _ _ h8⟩))
    ·refine ⟨_,rfl,aE rfl ⟨⟨_,_,rfl⟩,λx u n e=>s7 _ _ (VT x u n e),L2.MT.same Tn s7,λn Rj=>?_⟩⟩;rw [yn,hn] at Rj;rcases zT.mp Rj with h | h
     ·exact S1 n h
     ·have:(n:Int)=(k:Int):=by simpa using h
      obtain rfl:n=k:=by omega
      rw [<-e6];exact bq.mpr ⟨e2,fe2,Z0⟩
   ·rintro σ H5 ⟨⟨o7,o8,rfl⟩,b5,UT,S1⟩;rw [zA,zn] at S1;have t5:=MT.fz t6 b5;have XU:=mj.aS t5;have Wh:=hL.same s1;have Y0:dY H5 lt af.length s0 w0 x0 z0:=⟨t5 _ _ Wh.1,hL.2⟩;refine ⟨_,rfl,_,rfl,b,lt,s0,w0,x0,z0,af,tr,tm,ps,e,ns,rfl,XU,nq,pA,gd,Y0,sw,wk,le,S1,λt l1 l2 c1 c2 H6 s6 ht pr=>?_⟩;refine ⟨t,_,rfl,cD.of ht,rfl,_,_,rfl,_,_,rfl,rfl,?_⟩;refine ⟨_,rfl,_,rfl,by show 3<=sizeLine;omega,λt2 pB=>?_⟩;have k3:=xi (o:=HO.tup [V.str "two", V.ref l1,V.ref l2]) pB;have s7:=s6.trans k3;exact q t2 _ (λx u n e=>s7 _ _ (b5 x u n (s1 _ _ e))) (L2.MT.same UT s7) (.inr (.inr ⟨l1,l2,c1,c2,xb,(pr.same k3).to λl h=>s1.free (MT.free UT b5 h)⟩))
theorem Hy:aA ["book", "rest", "letter"] ["book", "rest", "letter"] (av GM):=L2.bQ
theorem Kf (T:Tx K mg a au aj ak ah aq)(B:br mg base):aV P w K mg base cR 6 a.CJ a.Dy ["book", "rest", "letter"] (Pf):=by
 have BB:=@DL P w _ _ base _ _ _ _ _ _ T B;refine T.Db.ok Hy (λvs H Q E h=>?_) (λbZ A outer s H vs Q E hr h=>?_)
 ·obtain ⟨_,_,_,_,_,_,_,_,_,_,_,rfl,_⟩:=h;rfl
 ·have nd:=Hy.nd;have hu:=hr.units;obtain ⟨b,c,x,af,tr,tm,ps,tr2,tm2,ps2,n,rfl,hb,hc,rn,gd,gd2,hx,e,q⟩:=h;refine ⟨_,(@xo _ _ _ (@wB _ _ _ (@xv _ _ _ _ (@dR _ _ _ _ _ _ _ (rA (@jH _ _ _ _ _ (xm BB (hr.mono (by decide)) rfl T.CQ T.CS T.CU .nil ay (@xa _ _ _ (@xf _ _ _ _ _ (pv 0) (@xf _ _ _ _ _ (pv 2) xp rfl) rfl))))) (@gZ _ _ _ _ _ (rA (@rB _ _ _ _ _ (xm BB (hr.mono (by decide)) rfl T.CQ T.CS T.CU .nil ay (@xa _ _ _ (@xf _ _ _ _ _ (pv 1) (@xf _ _ _ _ _ (pv 2) xp rfl) rfl)))))))))),?_⟩;refine (zr rfl (zr rfl (SN b x.1 x.2.s x.2.w x.2.a x.2.z af tr tm ps ⟨rfl,hb,rn,gd,hx,λno H1 s1=>?_,λee l ns H1 fe le hl s1 h1 hn wk=>?_⟩)))
  ·refine (zr rfl (aE rfl ?_));have:=q H1 s1;rw [show bg (ps.map (·.2)) n x.2=false from by unfold bg aH;rw [no];rfl] at this;exact this
  ·have yes:aH (ps.map (·.2)) x.2=true:=by unfold aH;rw [fe];simp [cK,le]
   refine (zr rfl (bH rfl (zr rfl (zr rfl ⟨c,x.1,x.2.s,x.2.w,x.2.a,x.2.z,af,tr2,tm2,ps2,rfl,hc.same s1,rn,gd2,hx.aS (bV.same s1),λno H2 s2=>?_,λe2 l2 ns2 H2 fe2 Z0 M8 s2 h2 XC wk2=>?_⟩))))
   ·have:=q H2 (s1.trans s2);rw [show bg (ps.map (·.2)) n x.2=true from by unfold bg;rw [yes,<- e];unfold aH;rw [no];rfl] at this;exact this
   ·have:=q H2 (s1.trans s2);rw [show bg (ps.map (·.2)) n x.2=false from by unfold bg;rw [yes,<- e];unfold aH;rw [fe2];simp [cK,Z0]] at this;exact this
theorem KZ:aA ["book", "letters", "meeting", "rest"] ["book", "letters", "meeting"] (av IU):=L2.bQ
theorem LB (T:Tx K mg a au aj ak ah aq)(B:br mg base):aV P w K mg base cR 7 a.Fl a.G2 ["book", "letters", "meeting"] (Uv a.tP cg):=by
 have D6:=@F3 P w _ _ base _ _ _ _ _ _ T B;have Li:=@Kf P w _ _ base _ _ _ _ _ _ T B;refine T.Gg.ok KZ (λvs H Q E h=>?_) (λbZ A outer s H vs Q E hr h=>?_)
 ·obtain ⟨_,_,_,_,_,_,_,_,rfl,_⟩:=h;rfl
 ·have nd:=KZ.nd;have hu:=hr.units;obtain ⟨b,l,n,af,tr,tm,ps,ls,rfl,hb,hn,nq,pA,sJ,gd,hL,adY,mt,q⟩:=h;refine ⟨_,(@xo _ _ _ (@xu _ _ _ _ _ _ (xq (i:=3) nd rfl (by first|exact .inl rfl|exact .inr rfl) (xm D6 (hr.mono (by decide)) rfl T.GR T.GT T.GU .nil ay (@xa _ _ _ (@xf _ _ _ _ _ (pv 0) (@xf _ _ _ _ _ (pv 2) xp rfl) rfl)))) (@wB _ _ _ (@xv _ _ _ _ (wr (own:=["number", "letter"]) (caps:=[0,3]) rfl (show aM ["number", "letter"] [0,3] ["book", "letters", "meeting", "rest"] (av IU) _ from L2.iw) (tM rfl rfl T.dw (@xa _ _ _ (@xf _ _ _ _ _ (pv 1) xp rfl))) (λ_ _ _ _=>(wJ (n:=2) rfl rfl (xl (xk (i:=0) (show List.Nodup (["number", "letter", "book", "rest"]:List Str) from by decide +kernel) rfl (by first|exact .inl rfl|exact .inr rfl)) (xl (xk (i:=1) (show List.Nodup (["number", "letter", "book", "rest"]:List Str) from by decide +kernel) rfl (by first|exact .inl rfl|exact .inr rfl)) wF)))) (λ_ _ _ _=>fS (wd (xm Li (hr.mono (by decide)) rfl T.K6 T.K8 T.Lb .nil ay (@xa _ _ _ (@xf _ _ _ _ _ (pv 2) (@xf _ _ _ _ _ (pv 3) (@xf _ _ _ _ _ (pv 1) xp rfl) rfl) rfl))))) (λ_ _ _ _=>(pv 0))))))),?_⟩;have line:=eU;refine (zr rfl (zr rfl (Wm b n af tr tm ps ⟨rfl,hb,hn,nq,pA,sJ,gd,mt,λb' lY lZ fF H1 b1 t6 kM SO=>?_⟩)));have t1:=MT.fz mt b1;have mj:=hb.aS t1;have XJ:=MT.keep mt b1 hL.1 (by intro ys z;cases z);have Vz:Good af.length (fF.map (·.2)):=by rw [SO];exact gd.sub (yP _ _)
  refine (zr rfl ⟨l,rfl,⟨_,aL.of XJ⟩,?_⟩);refine oF (K:=K) (a:=l) (xs:=ls.map λx=>V.ref x.1) (λi τ acc H5=>(∃ t0 t1,τ=[t0,t1,some (.ref b),some (.ref b')])/\acc=List.map V.int (pick (bg (ps.map (·.2)) n) (ls.map (·.2)) i)/\aB H1 H5) ⟨⟨_,_,rfl⟩,rfl,aB.refl _⟩ (by rw [zA];omega) ?_ ?_ ?_
  ·rintro i τ acc H5 ⟨⟨t0,t1,rfl⟩,rfl,sm⟩;exact ⟨by rw [zA];exact dQ _ _ _,aL.of (sm _ _ XJ)⟩
  ·rintro i x k τ acc H5 C hx hk ⟨⟨t0,t1',rfl⟩,rfl,sm⟩ hC;obtain ⟨r,hr,rfl⟩:=wN hx;have hm:(ls.map (·.2))[i]?=some r.2:=by rw [zS,hr];rfl
   have s2:=sm.trans (xi (o:=HO.tup [V.int (i:Int),V.ref r.1]) hk);refine (Rr xb ?_);refine (zr rfl (zr rfl (zr rfl (aaI b b' r af tr tm ps lY lZ fF n ⟨rfl,mj.same s2,kM.same s2,by omega,gd,Vz,((hL.2 r (zB hr)).aS t1).aS (bV.same s2),SO,λH6 s6=>(zr rfl ?_)⟩))));cases c:bg (ps.map (·.2)) n r.2 with
   | true=>exact (zr rfl (hC _ _ _ ⟨⟨_,_,rfl⟩,by rw [gX hm c,zI];rfl,s2.trans s6⟩))
   | false=>exact hC _ _ _ ⟨⟨_,_,rfl⟩,by rw [iI hm c],s2.trans s6⟩
  ·rintro τ acc H5 ⟨⟨t0,t1',rfl⟩,rfl,sm⟩ lc lD;rw [zA];have s2:=sm.trans (xi (o:=HO.lst (List.map V.int (pick (bg (ps.map (·.2)) n) (ls.map (·.2)) ls.length))) lD);refine q lc _ (λx u n e=>s2 _ _ (b1 x u n e)) (L2.MT.same t6 s2) ?_ xb;cases e:H lc with
   | none=>rfl
   | some o=>
    by_cases z:lc=a.tP
    ·rcases t6 with m | ⟨_,m,_⟩ <;> (have:=sm _ _ m;rw [<-z,lD] at this;cases this)
    ·have:=sm _ _ (b1 _ _ z e);rw [lD] at this;cases this
theorem FM:aA ["_law_thing"] ["_law_thing"] (av Ed):=L2.bQ
theorem FS (T:Tx K mg a au aj ak ah aq)(B:br mg base):aV P w K mg base cR 1 a.A8 a.Cb ["_law_thing"] (MC):=by
 refine T.BE.ok FM (λvs H Q E h=>?_) (λbZ A outer s H vs Q E hr h=>?_)
 ·obtain ⟨x,t,rfl,_⟩:=h;rfl
 ·have nd:=FM.nd;have hu:=hr.units;obtain ⟨x,t,rfl,ht,k⟩:=h;refine ⟨_,(@xo _ _ _ (@wB _ _ _ (@xv _ _ _ _ (@dR _ _ _ _ _ _ _ (xw (wQ) (by rfl) T.bL zg (@xa _ _ _ (@xf _ _ _ _ _ (pv 0) (@xf _ _ _ _ _ (cZ (v:=V.ty "int") rfl T.T5 PyProof.Rows.boot_int rfl) xp rfl) rfl))) (@gZ _ _ _ _ _ (@PR _ _ _ _ (xw (wQ) (by rfl) T.bL zg (@xa _ _ _ (@xf _ _ _ _ _ (pv 0) (@xf _ _ _ _ _ (cZ (v:=V.ty "bool") rfl T.QY PyProof.Rows.boot_bool rfl) xp rfl) rfl))))))))),?_⟩;refine (zr rfl ⟨x,t, "int", rfl,ht,.inl rfl,zr rfl ?_⟩);rcases lX ht with rfl | rfl | rfl | rfl | rfl | rfl | rfl <;> first | exact aE rfl k | exact bH rfl ⟨_,rfl,x,_, "bool", rfl,ht,.inr (.inl rfl),_,rfl,k⟩
theorem Dq:aA ["_law_book_here", "_law_letters"] ["_law_book_here", "_law_letters"] (av we):=L2.bQ
theorem Dr (T:Tx K mg a au aj ak ah aq)(B:br mg base):aV P w K mg base cR 6 a.Aq a.AH ["_law_book_here", "_law_letters"] (Pa):=by
 have BB:=@DL P w _ _ base _ _ _ _ _ _ T B;refine T.Av.ok Dq (λvs H Q E h=>?_) (λbZ A outer s H vs Q E hr h=>?_)
 ·obtain ⟨_,_,_,_,_,_,_,rfl,_⟩:=h;rfl
 ·have nd:=Dq.nd;have hu:=hr.units;obtain ⟨b,lw,af,tr,tm,ps,ls,rfl,hb,pA,gd,hL,l9,q⟩:=h;refine ⟨_,(@xo _ _ _ (@wB _ _ _ (@xv _ _ _ _ (wr (own:=["_law_k"]) (caps:=[0,1]) rfl (show aM ["_law_k"] [0,1] ["_law_book_here", "_law_letters"] (av we) _ from L2.iw) (wg rfl T.cN (@xa _ _ _ (@xf _ _ _ _ _ (xw (xx rfl) (by rfl) T.cC PySem.boot_len (@xa _ _ _ (@xf _ _ _ _ _ (pv 1) xp rfl))) xp rfl))) (λ_ _ _ _=>(xk (i:=0) (show List.Nodup (["_law_k", "_law_book_here", "_law_letters"]:List Str) from by decide +kernel) rfl (by first|exact .inl rfl|exact .inr rfl))) (λ_ _ _ _=>fS (nB (@jH _ _ _ _ _ (xm BB (hr.mono (by decide)) rfl T.CQ T.CS T.CU .nil ay (@xa _ _ _ (@xf _ _ _ _ _ (pv 1) (@xf _ _ _ _ _ (@wE _ _ _ _ _ _ _ (wD rfl) (pv 2) (pv 0) (λ_ _=>rfl)) xp rfl) rfl)))))) (λ_ _ _ _=>(pv 0)))))),?_⟩;have line:3010<=sizeLine:=by rw [sizeLine_eq];decide
  have Rh:(ls.map λx=>V.ref x.1).length=ls.length:=zA ..;refine (zr rfl ⟨lw,zr rfl ⟨.inl (aL.of hL.1),zr rfl ⟨by rw [Rh];omega,by rw [Rh];omega,?_⟩⟩⟩);refine gj (lo:=0) (m:=(ls.map λx=>V.ref x.1).length) (λi τ acc H5=>(∃ t0,τ=[t0,some (.ref b),some (.ref lw)])/\acc=List.map V.int (pick (aH (ps.map (·.2))) (ls.map (·.2)) i)/\aB H H5) ?_ (by rw [Rh];omega) ?_ ?_ ?_
  ·exact ⟨⟨_,rfl⟩,rfl,aB.refl _⟩
  ·rintro i τ acc H5 ⟨_,rfl,_⟩;rw [zA];exact dQ _ _ _
  ·rintro i τ acc H5 C hi ⟨⟨t0,rfl⟩,rfl,sm⟩ hC;rw [Rh] at hi;rw [xP];have hm:(ls.map (·.2))[i]?=some ls[i].2:=by simp [hi]
   have TM:(ls.map λx=>V.ref x.1)[i]?=some (V.ref ls[i].1):=by simp [hi]
   have hx:=hL.2 ls[i] (zh hi);refine (zr rfl (zr rfl (zr rfl (lC (sm _ _ hL.1) (wI TM) (SN b (ls[i].1) (ls[i].2.s) (ls[i].2.w) (ls[i].2.a) (ls[i].2.z) af tr tm ps ⟨rfl,hb.same sm,by omega,gd,Mt.aS hx (bV.same sm),λno H6 s6=>(zr rfl (aE rfl (hC _ _ _ ⟨⟨_,rfl⟩,by rw [iI hm no],sm.trans s6⟩))),λe l ns H6 fe le _ s6 _ _ _=>(zr rfl (bH rfl (zr rfl (hC _ _ _ ⟨⟨_,rfl⟩,?_,sm.trans s6⟩))))⟩)))));rw [gX hm (show aH _ _=true from bq.mpr ⟨e,fe,le⟩),zI];rfl
  ·rintro τ acc H5 ⟨_,rfl,sm⟩ l hl;rw [Rh];exact q l _ (sm.trans (xi hl)) (sm.free hl) xb
theorem Di:aA ["_law_book_here", "_law_letters", "_law_lost_by", "_law_known", "_law_k", "_law_told", "_law_needs", "_law_word"] ["_law_book_here", "_law_letters", "_law_lost_by"] (av wZ):=L2.bQ
theorem EX (T:Tx K mg a au aj ak ah aq)(B:br mg base):aV P w K mg base cR 7 a.Al a.AB ["_law_book_here", "_law_letters", "_law_lost_by"] (NK a.tP cg):=by
 have Lv:=@K4 P w _ _ base _ _ _ _ _ _ T B;have Ev:=@FS P w _ _ base _ _ _ _ _ _ T B;have A0:=@Dr P w _ _ base _ _ _ _ _ _ T B;refine T.As.ok Di (λvs H Q E h=>?_) (λbZ A outer s H vs Q E hr h=>?_)
 ·obtain ⟨_,_,_,_,_,_,_,_,_,rfl,_⟩:=h;rfl
 ·have nd:=Di.nd;have hu:=hr.units;obtain ⟨b,lw,lb,af,tr,tm,ps,ls,as,rfl,hb,nq,pA,sJ,gd,hL,l9,las,hLo,mt,q⟩:=h;refine ⟨_,(@xo _ _ _ (@xu _ _ _ _ _ _ (xq (i:=3) nd rfl (by first|exact .inl rfl|exact .inr rfl) (xm A0 (hr.mono (by decide)) rfl T.By T.Bz T.BA .nil ay (@xa _ _ _ (@xf _ _ _ _ _ (pv 0) (@xf _ _ _ _ _ (pv 1) xp rfl) rfl)))) (@xu _ _ _ _ _ _ (wt PassesOwn.never rfl (wg rfl T.cN (@xa _ _ _ (@xf _ _ _ _ _ (xw (xx rfl) (by rfl) T.cC PySem.boot_len (@xa _ _ _ (@xf _ _ _ _ _ (pv 1) xp rfl))) xp rfl))) (xk (i:=4) nd rfl (by first|exact .inl rfl|exact .inr rfl)) (@xo _ _ _ (@xu _ _ _ _ _ _ (xq (i:=5) nd rfl (by first|exact .inl rfl|exact .inr rfl) (xm Lv (hr.mono (by decide)) rfl T.Lm T.Lp T.Lr .nil ay (@xa _ _ _ (@xf _ _ _ _ _ (pv 0) (@xf _ _ _ _ _ (@wE _ _ _ _ _ _ _ (wD rfl) (pv 1) (pv 4) (λ_ _=>rfl)) xp rfl) rfl)))) (@xu _ _ _ _ _ _ (fT (ix:=6) nd rfl (by first|exact .inl rfl|exact .inr rfl) (own:=["_law_at"]) (caps:=[4,2]) rfl (show aM ["_law_at"] [4,2] ["_law_book_here", "_law_letters", "_law_lost_by", "_law_known", "_law_k", "_law_told", "_law_needs", "_law_word"] (av wZ) _ from L2.iw) (wg rfl T.cN (@xa _ _ _ (@xf _ _ _ _ _ (xw (xx rfl) (by rfl) T.cC PySem.boot_len (@xa _ _ _ (@xf _ _ _ _ _ (pv 2) xp rfl))) xp rfl))) (λ_ _ _ _=>(xk (i:=0) (show List.Nodup (["_law_at", "_law_k", "_law_lost_by"]:List Str) from by decide +kernel) rfl (by first|exact .inl rfl|exact .inr rfl))) (λ_ _ _ _=>fS (@wA _ _ _ _ _ _ _ _ (fW rfl) (pv 1) (@wE _ _ _ _ _ _ _ (wD rfl) (pv 2) (pv 0) (λ_ _=>rfl)) rfl)) (λ_ _ _ _=>(pv 0))) (@xu _ _ _ _ _ _ (xq (i:=7) nd rfl (by first|exact .inl rfl|exact .inr rfl) gY) (@xu _ _ _ _ _ _ (@wG _ _ _ _ _ _ _ _ (@wA _ _ _ _ _ _ _ _ dD (pv 4) (pv 3) rfl) (@xo _ _ _ (@wB _ _ _ (xq (i:=7) nd rfl (by first|exact .inl rfl|exact .inr rfl) gY))) (@xo _ _ _ (@wB _ _ _ (@wG _ _ _ _ _ _ _ _ (@wA _ _ _ _ _ _ _ _ (vU hu) (pv 6) (@wO _ _ _ _ wb) (aK _)) (@xo _ _ _ (@wB _ _ _ (xq (i:=7) nd rfl (by first|exact .inl rfl|exact .inr rfl) gY))) wC)))) (@xu _ _ _ _ _ _ (@wG _ _ _ _ _ _ _ _ (@PW.pt _ _ _ (@gU _ _ _ _ _ _ _ (@wq _ _ _ _ (wd (xw (wQ) (by rfl) T.bL zg (@xa _ _ _ (@xf _ _ _ _ _ (pv 5) (@xf _ _ _ _ _ (cZ (v:=V.ty "tuple") rfl T.gq yF rfl) xp rfl) rfl))))) (@dO _ _ _ _ (@wA _ _ _ _ _ _ _ _ nH (@wE _ _ _ _ _ _ _ (wK rfl) (pv 5) xg (λ_ _=>rfl)) (pv 7) (aK _))))) (@xo _ _ _ (@wB _ _ _ (@xv _ _ _ _ eK))) wC) (@wB _ _ _ (@wG _ _ _ _ _ _ _ _ (@PW.pt _ _ _ (@kr _ _ _ _ _ _ _ (@wA _ _ _ _ _ _ _ _ eO (pv 7) gY (aK _)) (@iH _ _ _ _ (@PW.pt _ _ _ (@gU _ _ _ _ _ _ _ (@wq _ _ _ _ (wd (xm Ev (hr.mono (by decide)) rfl T.Gy T.Gz T.GA .nil ay (@xa _ _ _ (@xf _ _ _ _ _ (@wE _ _ _ _ _ _ _ (wK rfl) (pv 5) xg (λ_ _=>rfl)) xp rfl))))) (@dO _ _ _ _ (@wA _ _ _ _ _ _ _ _ dD (@wE _ _ _ _ _ _ _ (wK rfl) (pv 5) xg (λ_ _=>rfl)) (pv 6) rfl))))))) (@xo _ _ _ (@wB _ _ _ (@xv _ _ _ _ eK))) wC))))))))) (@wB _ _ _ (@xv _ _ _ _ eK))))),?_⟩;have line:3010<=sizeLine:=by rw [sizeLine_eq];decide
  have MZ:=gd.len;have M3:(ps.map (·.2)).length=ps.length:=zA ..;have Rh:(ls.map λx=>V.ref x.1).length=ls.length:=zA ..;have Xk:(as.map V.ref).length=ps.length:=by rw [zA,las]
  refine (zr rfl (zr rfl (QI b lw af tr tm ps ls ⟨rfl,hb,pA,gd,hL,l9,λlk H1 s1 f1 h1=>?_⟩)));have Wh:=hL.same s1;have t6:=L2.MT.same mt s1;have aaA:=hLo.same s1;have mj:=hb.same s1;refine (zr rfl ⟨lw,zr rfl ⟨.inl (aL.of Wh.1),zr rfl ⟨by rw [Rh];omega,by rw [Rh];omega,?_⟩⟩⟩);refine cW (lo:=0) (λk σ H5=>(∃ v4 v5 v6 v7,σ=[some (.ref b),some (.ref lw),some (.ref lb),some (.ref lk),v4,v5,v6,v7])/\bY a.tP H1 H5/\MT a.tP cg dS H5) ⟨⟨_,_,_,_,rfl⟩,bY.refl _ _,t6⟩ ?_ (fun σ H5 h=>q H5 (λx u n e=>h.2.1 x u n (s1 _ _ e)) h.2.2);rintro k σ H5 hk ⟨⟨v4,v5,v6,v7,rfl⟩,b5,UT⟩;rw [Rh,zy] at hk;rw [xP];have hm:(ls.map (·.2))[k]?=some ls[k].2:=by simp [hk]
  have TM:(ls.map λx=>V.ref x.1)[k]?=some (V.ref ls[k].1):=by simp [hk]
  have Y0:=Wh.OD t6 b5;have XU:=mj.aS (MT.fz t6 b5);have hx5:=Y0.2 ls[k] (zh hk);generalize ls[k]=x at hm TM hx5;refine (zr rfl (zr rfl (zr rfl (lC Y0.1 (wI TM) (SN b x.1 x.2.s x.2.w x.2.a x.2.z af tr tm ps ⟨rfl,XU,nq,pA,sJ,gd,hx5,UT,λt H6 b6 Tn told=>?_⟩)))));have VT:bY a.tP H1 H6:=b5.trans b6;have Vv:=aaA.but t6 VT;have hk6:=MT.keep t6 VT h1 (by intro ys z;cases z);refine (zr rfl ⟨lb,zr rfl ⟨.inl (aL.of Vv.1),zr rfl ⟨by rw [Xk];omega,by rw [Xk];omega,?_⟩⟩⟩);refine gj (lo:=0) (m:=(as.map V.ref).length) (λi τ acc H7=>(∃ t0,τ=[t0,some (.int (k:Int)),some (.ref lb)])/\acc=List.map V.int (cG (ps.map (·.2)) x.2 i)/\H7=H6) ⟨⟨_,rfl⟩,rfl,rfl⟩ (by rw [Xk];omega) ?_ ?_ ?_
  ·rintro i τ acc H7 ⟨_,rfl,rfl⟩;rw [zA];exact nQ _ _ _
  ·rintro i τ acc H7 C hi ⟨⟨t0,rfl⟩,rfl,rfl⟩ hC;rw [Xk] at hi;rw [xP];obtain ⟨c,hc⟩:∃ c,as[i]?=some c:=⟨_,zL (by omega)⟩;have Rk:sL (.int (k:Int)) (List.map V.int (pick (bg (ps.map (·.2)) i) (ls.map (·.2)) (ls.map (·.2)).length))=bg (ps.map (·.2)) i x.2:=by rw [cQ];exact di hm (by rw [zA];exact hk)
   refine (zr rfl (zr rfl (zr rfl (lC Vv.1 (wI (show (as.map V.ref)[i]?=some (V.ref c) by rw [zS,hc];rfl)) ⟨c,zr rfl ⟨.inl (aL.of (Vv.2 i c hc)),rfl,dG,zr rfl ?_⟩⟩))));cases e:bg (ps.map (·.2)) i x.2 with
   | true=>exact bH (Rk.trans e) (zr rfl (hC _ _ _ ⟨⟨_,rfl⟩,by show _=List.map V.int (cG _ _ i++(if bg (ps.map (·.2)) i x.2=true then [(i:Int)] else []));rw [e,if_pos rfl,zI];rfl,rfl⟩))
   | false=>exact aE (Rk.trans e) (hC _ _ _ ⟨⟨_,rfl⟩,by show _=List.map V.int (cG _ _ i++(if bg (ps.map (·.2)) i x.2=true then [(i:Int)] else []));rw [e,if_neg zO,zq],rfl⟩)
  rintro τ acc H7 ⟨_,rfl,rfl⟩ ln YR;rw [Xk];have s8:=xi (o:=HO.lst (List.map V.int (cG (ps.map (·.2)) x.2 ps.length))) YR;have h8:upd H7 ln (HO.lst (List.map V.int (cG (ps.map (·.2)) x.2 ps.length))) ln=some (.lst (List.map V.int (cG (ps.map (·.2)) x.2 ps.length))):=xb;generalize upd H7 ln _=H8 at s8 h8 ⊢;have US:=L2.MT.same Tn s8;have b18:bY a.tP H1 H8:=λx u n e=>s8 _ _ (VT x u n e);have hk8:=s8 _ _ hk6;have Rk:sL (.int (k:Int)) (List.map V.int (pick (aH (ps.map (·.2))) (ls.map (·.2)) ls.length))=aH (ps.map (·.2)) x.2:=by rw [cQ];exact di hm hk
  have told:=NC gd told;rw [M3] at told;refine (zr rfl (zr rfl ⟨lk,zr rfl ⟨.inl (aL.of hk8),rfl,dG,zr rfl ?_⟩⟩));rcases told with ⟨no,ys,hT⟩ | ⟨yes,j,l,hj,hT⟩ | ⟨yes,nil,ys,hT⟩
  ·have Wf:=s8 _ _ hT;refine bH (by show (!sL _ _)=true;rw [Rk,no];rfl) ?_;refine (zr rfl ⟨.ref t, "tuple", "tuple", rfl,jo Wf,.inr (.inr (.inr rfl)),zr rfl (aE rfl (zr rfl (kE Wf (show mD (V.str "none" :: ys) ((0:Nat):Int)=some (V.str "none") from wI rfl) (zr rfl ⟨rfl,zr rfl (aE (by rw [decide_eq_true rfl];rfl) ?_)⟩))))⟩);exact (zr rfl ⟨rfl,zr rfl (aE (by decide +kernel) (aE rfl ⟨⟨_,_,_,_,rfl⟩,b18,US⟩))⟩)
  ·have Wf:=s8 _ _ hT;refine aE (by show (!sL _ _)=false;rw [Rk,yes];rfl) ?_;refine (zr rfl ⟨by show 0<=sizeLine;omega,λle hle=>?_⟩);have s9:=xi (o:=HO.lst []) hle;have h9:upd H8 le (HO.lst []) le=some (.lst []):=xb;generalize upd H8 le (HO.lst [])=H9 at s9 h9 ⊢;have Vu:=s9 _ _ Wf;have ne:(List.map V.int (cG (ps.map (·.2)) x.2 ps.length)).length≠0:=by
    rw [zA];intro z;rw [List.length_eq_zero_iff.mp z] at hj;cases hj
   refine ⟨1,ln,le,_,[],λ_=>true,false,by decide,rfl,rfl,.inl ⟨aL.of (s9 _ _ h8),aL.of h9⟩,?_,(λi x y hx hy=>by simp at hy),?_⟩
   ·rw [show decide ((List.map V.int (cG (ps.map (·.2)) x.2 ps.length)).length=([]:List V).length)=false from decide_eq_false ne];rfl
   refine (zr rfl (bH rfl ?_));refine (zr rfl ⟨.ref t, "tuple", "tuple", rfl,jo Vu,.inr (.inr (.inr rfl)),zr rfl (aE rfl (zr rfl (kE Vu rfl (zr rfl ⟨rfl,zr rfl (aE (by rw [decide_eq_true rfl];rfl) ?_)⟩))))⟩);refine (zr rfl ⟨rfl,zr rfl (bH (by decide +kernel) ?_)⟩);refine (zr rfl (kE Vu rfl ⟨.int (j:Int), "int", rfl,rfl,zr rfl (aE rfl ?_)⟩));refine (zr rfl (kE Vu rfl (zr rfl ⟨ln,zr rfl ⟨.inl (aL.of (s9 _ _ h8)),rfl,dG,zr rfl (aE (by show (!sL _ _)=false;rw [cQ,decide_eq_true hj];rfl) ?_)⟩⟩)));exact ⟨⟨_,_,_,_,rfl⟩,λx u n e=>s9 _ _ (b18 x u n e),L2.MT.same US s9⟩
  ·have Wf:=s8 _ _ hT;refine aE (by show (!sL _ _)=false;rw [Rk,yes];rfl) ?_;rw [nil] at h8;refine (zr rfl ⟨by show 0<=sizeLine;omega,λle hle=>?_⟩);have s9:=xi (o:=HO.lst []) hle;have h9:upd H8 le (HO.lst []) le=some (.lst []):=xb;generalize upd H8 le (HO.lst [])=H9 at s9 h9 ⊢;have Vu:=s9 _ _ Wf;refine ⟨1,ln,le,[],[],λ_=>true,true,by decide,rfl,rfl,.inl ⟨aL.of (s9 _ _ h8),aL.of h9⟩,rfl,(λi x y hx hy=>by simp at hy),?_⟩;refine (zr rfl (aE rfl ?_));refine (zr rfl ⟨.ref t, "tuple", "tuple", rfl,jo Vu,.inr (.inr (.inr rfl)),zr rfl (aE rfl (zr rfl (kE Vu (show mD (V.str "two" :: ys) ((0:Nat):Int)=some (V.str "two") from wI rfl) (zr rfl ⟨rfl,zr rfl (aE (by rw [decide_eq_true rfl];rfl) ?_)⟩))))⟩);exact (zr rfl ⟨rfl,zr rfl (aE (by decide +kernel) (aE rfl ⟨⟨_,_,_,_,rfl⟩,λx u n e=>s9 _ _ (b18 x u n e),L2.MT.same US s9⟩))⟩)
theorem FP:aA ["_law_book_here", "_law_at", "_law_when", "_law_found"] ["_law_book_here", "_law_at", "_law_when"] (av Eg):=L2.bQ
theorem Io (T:Tx K mg a au aj ak ah aq)(B:br mg base):aV P w K mg base cR 6 a.Bb a.Ce ["_law_book_here", "_law_at", "_law_when"] (Us a.tP cg):=by
 have KP:=@JB P w _ _ base _ _ _ _ _ _ T B;refine T.BH.ok FP (λvs H Q E h=>?_) (λbZ A outer s H vs Q E hr h=>?_)
 ·obtain ⟨_,_,_,_,_,_,_,_,rfl,_⟩:=h;rfl
 ·have nd:=FP.nd;have hu:=hr.units;obtain ⟨b,n,w0,m,af,tr,tm,ps,rfl,hb,nq,pA,sJ,gd,hm,w1,w2,mt,q1,q2⟩:=h;refine ⟨_,(@xo _ _ _ (@xu _ _ _ _ _ _ (R5 rfl (R3 (i:=3) KP (hr.mono (by decide)) rfl T.Kh T.Ko T.Kv .nil nd rfl (by first|exact .inl rfl|exact .inr rfl) (@xa _ _ _ (@xf _ _ _ _ _ (pv 0) (@xf _ _ _ _ _ (pv 1) (@xf _ _ _ _ _ (pv 2) xp rfl) rfl) rfl))) rfl rfl rfl T.E5 (λ_=>(@xo _ _ _ (@wB _ _ _ (xq (i:=3) nd rfl (by first|exact .inl rfl|exact .inr rfl) je))))) (@wB _ _ _ (@xv _ _ _ _ (pv 3))))),?_⟩;have fe:∀ H',aB H H'->PySem.W.exmOne K (.ref a.AJ) (.ref a.AJ)=some true/\∃ C,Value.ref a.AJ=Value.ref C/\Q .cI H':=λH' s'=>⟨T.Yc,zr rfl (q1 H' s')⟩;refine (zr rfl (zr rfl (zr rfl ⟨b,.int (n:Int),.int w0,Wm ("int") ("int") af tr tm ps ⟨rfl,hb,nq,pA,sJ,gd,rfl,rfl,?_⟩⟩)));by_cases c:((ps.map (·.2)).set n (gH w0 m)).Pairwise Ro
  ·exact .inr (.inr (.inr ⟨n,m,w0,rfl,hm,rfl,w1,w2,c,mt,λb' lY lZ fF H' bt YI kM Vz pm=>(zr rfl (q2 b' lY lZ fF H' bt YI kM Vz pm))⟩))
  ·exact .inr (.inr (.inl ⟨n,m,w0,rfl,hm,rfl,w1,w2,c,λH' s'=>⟨T.Yc,zr rfl (zr rfl (q1 H' s'))⟩⟩))
theorem Lj:aA ["_law_script", "_law_book_here", "_law_letters", "_law_known", "_law_lost_by", "_law_at", "_law_told", "_law_left", "_law_k", "_law_purse_here", "_law_when", "_law_there"] ["_law_script"] (av IN):=L2.bQ
theorem LF (T:Tx K mg a au aj ak ah aq)(B:br mg base):aV P w K mg base cR 8 a.GE a.IS ["_law_script"] (qU K a.tP cg):=by
 have Ew:=@Im P w _ _ base _ _ _ _ _ _ T B;have Ab:=@wV P w _ _ base _ _ _ _ _ _ T B;have Ka:=@Ja P w _ _ base _ _ _ _ _ _ T B;have DN:=@Gw P w _ _ base _ _ _ _ _ _ T B;have IJ:=@HN P w _ _ base _ _ _ _ _ _ T B;have D6:=@F3 P w _ _ base _ _ _ _ _ _ T B;have BB:=@DL P w _ _ base _ _ _ _ _ _ T B;have LL:=@LB P w _ _ base _ _ _ _ _ _ T B;have Ev:=@FS P w _ _ base _ _ _ _ _ _ T B;have A0:=@Dr P w _ _ base _ _ _ _ _ _ T B;have FI:=@EX P w _ _ base _ _ _ _ _ _ T B;have Jy:=@Io P w _ _ base _ _ _ _ _ _ T B;refine T.Hl.ok Lj (λvs H Q E h=>?_) (λbZ A outer s H vs Q E hr h=>?_)
 ·obtain ⟨_,_,rfl,_⟩:=h;rfl
 ·have nd:=Lj.nd;have hu:=hr.units;obtain ⟨sa,ns,rfl,hS,hlen,mt,q⟩:=h;refine ⟨_,(@xo _ _ _ (@xu _ _ _ _ _ _ (xq (i:=1) nd rfl (by first|exact .inl rfl|exact .inr rfl) (xm Ka (hr.mono (by decide)) rfl T.JL T.JQ T.JU .nil ay (@xa _ _ _ (@xf _ _ _ _ _ (xm Ew (hr.mono (by decide)) rfl T.Ek T.El T.En .nil ay (@xa _ _ _ (@xf _ _ _ _ _ (pv 0) (@xf _ _ _ _ _ xg xp rfl) rfl))) (@xf _ _ _ _ _ xg (@xf _ _ _ _ _ xg xp rfl) rfl) rfl)))) (@xu _ _ _ _ _ _ (fT (ix:=2) nd rfl (by first|exact .inl rfl|exact .inr rfl) (own:=["_law_k"]) (caps:=[1,0]) rfl (show aM ["_law_k"] [1,0] ["_law_script", "_law_book_here", "_law_letters", "_law_known", "_law_lost_by", "_law_at", "_law_told", "_law_left", "_law_k", "_law_purse_here", "_law_when", "_law_there"] (av IN) _ from L2.iw) (pZ rfl T.cN (@xa _ _ _ (@xf _ _ _ _ _ xg (@xf _ _ _ _ _ (xw (fN rfl) (by rfl) T.uT yo (@xa _ _ _ (@xf _ _ _ _ _ xg (@xf _ _ _ _ _ (xw (fM rfl) (by rfl) T.qJ yU (@xa _ _ _ (@xf _ _ _ _ _ xg (@xf _ _ _ _ _ (xw (xx rfl) (by rfl) T.cC PySem.boot_len (@xa _ _ _ (@xf _ _ _ _ _ (pv 0) xp rfl))) xp rfl) rfl))) xp rfl) rfl))) xp rfl) rfl))) (λ_ _ _ _=>(xk (i:=0) (show List.Nodup (["_law_k", "_law_book_here", "_law_script"]:List Str) from by decide +kernel) rfl (by first|exact .inl rfl|exact .inr rfl))) (λ_ _ _ _=>cX) (λ_ _ _ _=>(xm IJ (hr.mono (by decide)) rfl T.Ir T.Iw T.Iy .nil ay (@xa _ _ _ (@xf _ _ _ _ _ (xm Ew (hr.mono (by decide)) rfl T.Ek T.El T.En .nil ay (@xa _ _ _ (@xf _ _ _ _ _ (pv 2) (@xf _ _ _ _ _ (pv 0) xp rfl) rfl))) (@xf _ _ _ _ _ (pv 1) xp rfl) rfl))))) (@xu _ _ _ _ _ _ (xq (i:=3) nd rfl (by first|exact .inl rfl|exact .inr rfl) (xm A0 (hr.mono (by decide)) rfl T.By T.Bz T.BA .nil ay (@xa _ _ _ (@xf _ _ _ _ _ (pv 1) (@xf _ _ _ _ _ (pv 2) xp rfl) rfl)))) (@xu _ _ _ _ _ _ (xq (i:=4) nd rfl (by first|exact .inl rfl|exact .inr rfl) (@wO _ _ _ _ wb)) (@xu _ _ _ _ _ _ (wt PassesOwn.never rfl (wg rfl T.cN (@xa _ _ _ (@xf _ _ _ _ _ (xw (xx rfl) (by rfl) T.cC PySem.boot_len (@xa _ _ _ (@xf _ _ _ _ _ (@wE _ _ _ _ _ _ _ (wK rfl) (pv 1) xg (λ_ _=>rfl)) xp rfl))) xp rfl))) (xk (i:=5) nd rfl (by first|exact .inl rfl|exact .inr rfl)) (@xo _ _ _ (@xu _ _ _ _ _ _ (xq (i:=6) nd rfl (by first|exact .inl rfl|exact .inr rfl) (xm LL (hr.mono (by decide)) rfl T.LG T.LH T.LI .nil ay (@xa _ _ _ (@xf _ _ _ _ _ (pv 1) (@xf _ _ _ _ _ (wz (dh rfl) (by rfl) T.ji yK (@xa _ _ _ (@xf _ _ _ _ _ (pv 2) xp rfl))) (@xf _ _ _ _ _ (pv 5) xp rfl) rfl) rfl)))) (@xu _ _ _ _ _ _ (xq (i:=7) nd rfl (by first|exact .inl rfl|exact .inr rfl) (xm A0 (hr.mono (by decide)) rfl T.By T.Bz T.BA .nil ay (@xa _ _ _ (@xf _ _ _ _ _ (xm D6 (hr.mono (by decide)) rfl T.GR T.GT T.GU .nil ay (@xa _ _ _ (@xf _ _ _ _ _ (pv 1) (@xf _ _ _ _ _ (pv 5) xp rfl) rfl))) (@xf _ _ _ _ _ (pv 2) xp rfl) rfl)))) (@xu _ _ _ _ _ _ (@wG _ _ _ _ _ _ _ _ (@PW.pt _ _ _ (@gU _ _ _ _ _ _ _ (@wq _ _ _ _ (wd (xw (wQ) (by rfl) T.bL zg (@xa _ _ _ (@xf _ _ _ _ _ (pv 6) (@xf _ _ _ _ _ (cZ (v:=V.ty "list") rfl T.ji yK rfl) xp rfl) rfl))))) (@dO _ _ _ _ (@wA _ _ _ _ _ _ _ _ (vU hu) (pv 6) (wr (own:=["_law_k"]) (caps:=[7]) rfl (show aM ["_law_k"] [7] ["_law_script", "_law_book_here", "_law_letters", "_law_known", "_law_lost_by", "_law_at", "_law_told", "_law_left", "_law_k", "_law_purse_here", "_law_when", "_law_there"] (av IN) _ from L2.iw) (@wR _ _ _ _ _ rfl (pv 3)) (λ_ _ _ _=>(xk (i:=0) (show List.Nodup (["_law_k", "_law_left"]:List Str) from by decide +kernel) rfl (by first|exact .inl rfl|exact .inr rfl))) (λ_ _ _ _=>fS (@wA _ _ _ _ _ _ _ _ (iX rfl) (pv 0) (pv 1) rfl)) (λ_ _ _ _=>(pv 0))) (aK _))))) (@xo _ _ _ (@wB _ _ _ (@xv _ _ _ _ eK))) wC) (@xu _ _ _ _ _ _ (wt PassesOwn.never rfl (@wR _ _ _ _ _ rfl (pv 6)) (xk (i:=8) nd rfl (by first|exact .inl rfl|exact .inr rfl)) (@xo _ _ _ (@wB _ _ _ (@wG _ _ _ _ _ _ _ _ (@PW.pt _ _ _ (@gU _ _ _ _ _ _ _ (@wq _ _ _ _ (wd (xm Ev (hr.mono (by decide)) rfl T.Gy T.Gz T.GA .nil ay (@xa _ _ _ (@xf _ _ _ _ _ (pv 8) xp rfl))))) (@dO _ _ _ _ (@wA _ _ _ _ _ _ _ _ dD (pv 5) (xm BB (hr.mono (by decide)) rfl T.CQ T.CS T.CU .nil ay (@xa _ _ _ (@xf _ _ _ _ _ (pv 1) (@xf _ _ _ _ _ (@wE _ _ _ _ _ _ _ (wD rfl) (pv 2) (pv 8) (λ_ _=>rfl)) xp rfl) rfl))) rfl)))) (@xo _ _ _ (@wB _ _ _ (@xv _ _ _ _ eK))) wC)))) (@wB _ _ _ (wS (gB zj ze zf wU (pv 4) (@xa _ _ _ (@xf _ _ _ _ _ (pv 6) xp rfl))))))))))) (@xu _ _ _ _ _ _ (@wG _ _ _ _ _ _ _ _ (@wq _ _ _ _ (wd (xm FI (hr.mono (by decide)) rfl T.Fx T.Fz T.FB .nil ay (@xa _ _ _ (@xf _ _ _ _ _ (pv 1) (@xf _ _ _ _ _ (pv 2) (@xf _ _ _ _ _ (pv 4) xp rfl) rfl) rfl))))) (@xo _ _ _ (@wB _ _ _ (@xv _ _ _ _ eK))) wC) (@xu _ _ _ _ _ _ (xq (i:=9) nd rfl (by first|exact .inl rfl|exact .inr rfl) (xm Ew (hr.mono (by decide)) rfl T.Ek T.El T.En .nil ay (@xa _ _ _ (@xf _ _ _ _ _ (pv 0) (@xf _ _ _ _ _ xg xp rfl) rfl)))) (@xu _ _ _ _ _ _ (wt PassesOwn.never rfl (wg rfl T.cN (@xa _ _ _ (@xf _ _ _ _ _ (xw (fM rfl) (by rfl) T.qJ yU (@xa _ _ _ (@xf _ _ _ _ _ xg (@xf _ _ _ _ _ (xw (xx rfl) (by rfl) T.cC PySem.boot_len (@xa _ _ _ (@xf _ _ _ _ _ (@wE _ _ _ _ _ _ _ (wK rfl) (pv 1) xg (λ_ _=>rfl)) xp rfl))) xp rfl) rfl))) xp rfl))) (xk (i:=5) nd rfl (by first|exact .inl rfl|exact .inr rfl)) (@xo _ _ _ (@xu _ _ _ _ _ _ (xq (i:=10) nd rfl (by first|exact .inl rfl|exact .inr rfl) (xw (fN rfl) (by rfl) T.uT yo (@xa _ _ _ (@xf _ _ _ _ _ xg (@xf _ _ _ _ _ (xm DN (hr.mono (by decide)) rfl T.E4 T.E7 T.E9 .nil ay (@xa _ _ _ (@xf _ _ _ _ _ (pv 9) (@xf _ _ _ _ _ (pv 1) (@xf _ _ _ _ _ (xm Ab (hr.mono (by decide)) rfl T.Ac T.Ae T.Af .nil ay (@xa _ _ _ (@xf _ _ _ _ _ (pv 9) (@xf _ _ _ _ _ xg xp rfl) rfl))) xp rfl) rfl) rfl))) xp rfl) rfl)))) (@xu _ _ _ _ _ _ (xq (i:=11) nd rfl (by first|exact .inl rfl|exact .inr rfl) (xm Jy (hr.mono (by decide)) rfl T.Je T.Ji T.Jm .nil ay (@xa _ _ _ (@xf _ _ _ _ _ (pv 1) (@xf _ _ _ _ _ (pv 5) (@xf _ _ _ _ _ (pv 10) xp rfl) rfl) rfl)))) (@wB _ _ _ (@wG _ _ _ _ _ _ _ _ (nB (@jH _ _ _ _ _ (pv 11))) (@xo _ _ _ (@xu _ _ _ _ _ _ (xq (i:=7) nd rfl (by first|exact .inl rfl|exact .inr rfl) (@xy _ _ _ _ _ _ _ _ P4 (xm A0 (hr.mono (by decide)) rfl T.By T.Bz T.BA .nil ay (@xa _ _ _ (@xf _ _ _ _ _ (pv 11) (@xf _ _ _ _ _ (pv 2) xp rfl) rfl))) (@wE _ _ _ _ _ _ _ (wD rfl) (pv 4) (pv 5) (λ_ _=>rfl)))) (@wB _ _ _ (@wG _ _ _ _ _ _ _ _ (@wA _ _ _ _ _ _ _ _ (vU hu) (wr (own:=["_law_k"]) (caps:=[7]) rfl (show aM ["_law_k"] [7] ["_law_script", "_law_book_here", "_law_letters", "_law_known", "_law_lost_by", "_law_at", "_law_told", "_law_left", "_law_k", "_law_purse_here", "_law_when", "_law_there"] (av IN) _ from L2.iw) (@wR _ _ _ _ _ rfl (pv 3)) (λ_ _ _ _=>(xk (i:=0) (show List.Nodup (["_law_k", "_law_left"]:List Str) from by decide +kernel) rfl (by first|exact .inl rfl|exact .inr rfl))) (λ_ _ _ _=>fS (@wA _ _ _ _ _ _ _ _ (iX rfl) (pv 0) (pv 1) rfl)) (λ_ _ _ _=>(pv 0))) (@wO _ _ _ _ wb) (aK _)) (@xo _ _ _ (@wB _ _ _ (@xv _ _ _ _ eK))) wC)))) wC)))))) (@wB _ _ _ (@xv _ _ _ _ eK))))))))))),?_⟩;have line:3010<=sizeLine:=by rw [sizeLine_eq];decide
  refine ⟨_,rfl,sa,ns,0,rfl,hS,by omega,λp0 H2 hp0 pu0 s2=>?_⟩;refine ⟨p0,8,20,rfl,by decide,by decide,by decide,pu0,λb af tr tm ps H4 g4 hb nq pA sJ gd _=>?_⟩;have rn:af.length<=12:=by omega
  have sm:aB H H4:=bY.same hp0 s2 g4.1;have mt4:=L2.MT.same mt sm;have YX:=sm.seq hS;clear sm g4 s2 pu0 hp0 hS mt;have MZ:=gd.len;have M3:(ps.map (·.2)).length=ps.length:=zA ..;have Rg:(ps.map λa=>V.ref a.1).length=ps.length:=zA ..;refine ⟨_,rfl,sa,_,rfl,.inl YX,_,_,rfl,_,_,rfl,_,_,rfl,?_,?_⟩
  ·refine ⟨by decide,by decide,?_,?_⟩
   ·split <;> (try split) <;> omega
   ·rw [zA];split <;> (try split) <;> omega
  refine gj (lo:=3) (λi τ acc H5=>∃ ls:List (Addr×L4),(∃ t0,τ=[t0,some (.ref b),some (.ref sa)])/\acc=(ls.map λx=>V.ref x.1)/\ls.length=i/\aB H4 H5/\∀ x∈ls,Mt H5 af.length x) ?_ ?_ ?_ ?_ ?_
  ·exact ⟨[],⟨_,rfl⟩,rfl,rfl,aB.refl _,λ_ h=>nomatch h⟩
  ·rw [zA];split <;> (try split) <;> omega
  ·rintro i τ acc H5 ⟨ls,_,rfl,ll,_⟩;rw [zA,ll];exact zD _
  ·rintro i τ acc H5 C hi ⟨ls,⟨t0,rfl⟩,rfl,ll,s5,Ze⟩ hC;have i60:i < 90:=by
    rw [zA] at hi
    revert hi
    split <;> (try split) <;> intro h <;> omega
   refine ⟨_,rfl,_,rfl,sa,ns,3 + i,by simp,s5.seq YX,by omega,λp2 H6 Tz pu6 s6=>?_⟩;refine ⟨_,rfl,p2,b,af,tr,tm,ps,rfl,(hb.same s5).same s6,nq,by omega,gd,pu6,λt s0 a0 w0 z0 H7 g7 ht s1' s2' w1' w2' a1' a2' z1' z2'=>?_⟩;obtain ⟨s0,rfl⟩:=zl s1';obtain ⟨w0,rfl⟩:=zl w1';have s57:aB H5 H7:=bY.same Tz s6 g7.1;refine hC _ _ _ ⟨ls++[(t,⟨s0,w0,a0,z0⟩)],⟨_,rfl⟩,by rw [zI];rfl,by rw [zE,ll];rfl,s5.trans s57,λx hx=>?_⟩;rcases zT.mp hx with h | h
   ·exact (Ze x h).aS (bV.same s57)
   ·cases zF.mp h;exact ⟨ht,by show s0 < _;omega,by show w0 < _;omega,a1',a2',z1',z2'⟩
  rintro τ acc H5 ⟨ls,⟨t0,rfl⟩,rfl,ll,s5,Ze⟩ lw SA;have l9:ls.length<=100:=by
   rw [ll,zA];split <;> (try split) <;> omega
  clear ll;have k6:=xi (o:=HO.lst (ls.map λx=>V.ref x.1)) SA;have Wg:dX (upd H5 lw (.lst (ls.map λx=>V.ref x.1))) lw af.length ls:=⟨xb,λx hx=>(Ze x hx).aS (bV.same k6)⟩;have s6:=s5.trans k6;generalize upd H5 lw (.lst (ls.map λx=>V.ref x.1))=H6 at k6 Wg s6 ⊢;have Rm:=hb.same s6;have Tn:=L2.MT.same mt4 s6;have hS6:=s6.seq YX;clear SA Ze k6 s5 s6 YX mt4 hb;have Rh:(ls.map λx=>V.ref x.1).length=ls.length:=zA ..;have ZY:(ls.map (·.2)).length=ls.length:=zA ..;refine ⟨_,rfl,_,rfl,b,lw,af,tr,tm,ps,ls,rfl,Rm,rn,gd,Wg,l9,λlk H7 s7 f7 h7=>?_⟩;have SE:=Rm.same s7;have u7:=L2.MT.same Tn s7;have hS7:=s7.seq hS6;have XY:=Wg.same s7;clear hS6 Tn Rm Wg f7 s7;refine ⟨by show 0<=sizeLine;omega,λlb Vo=>?_⟩;have k8:=xi (o:=HO.lst []) Vo;have h8:upd H7 lb (HO.lst []) lb=some (.lst []):=xb;generalize upd H7 lb (HO.lst [])=H8 at k8 h8 ⊢;refine ⟨_,rfl,b,_,_,_,rfl,rfl,cD.of (k8 _ _ SE.book),rfl,tm,_,rfl,.inr (cD.of (k8 _ _ SE.meets)),_,rfl,by rw [Rg];omega,by rw [Rg];omega,?_⟩;refine cW (lo:=0) (λn σ H9=>∃ as:List Addr,(∃ v5 v6 v7 v8 v9 v10 v11,σ=[some (.ref sa),some (.ref b),some (.ref lw),some (.ref lk),some (.ref lb),v5,v6,v7,v8,v9,v10,v11])/\as.length=n/\bY a.tP H7 H9/\MT a.tP cg dS H9/\lb ∉ as/\dW H9 lb as (ps.map (·.2)) (ls.map (·.2))) ⟨[],⟨_,_,_,_,_,_,_,rfl⟩,rfl,λx u _ e=>k8 _ _ e,L2.MT.same u7 k8,(λh=>nomatch h),h8,λk a h=>by cases h⟩ ?_ ?_
  ·rintro n σ H9 hn ⟨as,⟨v5,v6,v7,v8,v9,v10,v11,rfl⟩,la,b9,Xe,ZP,Xj⟩;rw [Rg,zy] at hn;rw [xP];have hb9:=SE.aS (MT.fz u7 b9);have YZ:=XY.OD u7 b9;refine ⟨_,rfl,_,rfl,lw,_,rfl,.inl (aL.of YZ.1),λl2 M8=>?_⟩;have kA:=xi (o:=HO.lst (ls.map λx=>V.ref x.1)) M8;have hLA:dX (upd H9 l2 (.lst (ls.map λx=>V.ref x.1))) l2 af.length ls:=⟨xb,λx hx=>(YZ.2 x hx).aS (bV.same kA)⟩;generalize upd H9 l2 (.lst (ls.map λx=>V.ref x.1))=HA at kA hLA ⊢;refine ⟨_,rfl,b,l2,n,af,tr,tm,ps,ls,rfl,hb9.same kA,hn,nq,rn,sJ,gd,hLA,l9,L2.MT.same Xe kA,λlt HB bB YH fB hB=>?_⟩;have Zc:bY a.tP H7 HB:=λx u n e=>bB x u n (kA _ _ (b9 x u n e));have b9B:bY a.tP H9 HB:=λx u n e=>bB x u n (kA _ _ e);have YV:=SE.aS (MT.fz u7 Zc);refine ⟨_,rfl,_,rfl,b,n,af,tr,tm,ps,rfl,YV,hn,nq,rn,sJ,gd,YH,λb' lY lZ fF HC bC ZU hbC eC=>?_⟩;have b7C:bY a.tP H7 HC:=Zc.trans bC;have gdC:Good af.length (fF.map (·.2)):=by rw [eC];exact gd.sub (yP _ _)
   refine ⟨_,rfl,b',lw,af,lY,lZ,fF,ls,rfl,hbC,rn,gdC,XY.OD u7 b7C,l9,λlf HD sD fD hD=>?_⟩;have ZT:=L2.MT.same ZU sD;have b7D:bY a.tP H7 HD:=λx u n e=>sD _ _ (b7C x u n e);have bBD:bY a.tP HB HD:=λx u n e=>sD _ _ (bC x u n e);have hBD:=MT.keep YH bBD hB (by intro ys z;cases z);have hkD:=MT.keep u7 b7D h7 (by intro ys z;cases z);rw [eC] at hD;refine ⟨_,rfl,.ref lt, "list", "list", rfl,jq hBD,.inr (.inr (.inl rfl)),_,rfl,aE rfl ?_⟩;refine ⟨_,rfl,_,rfl,lk,rfl,⟨_,aL.of hkD⟩,?_⟩;refine dH (K:=K) (a:=lk) (xs:=List.map V.int (pick (aH (ps.map (·.2))) (ls.map (·.2)) ls.length)) (λi τ acc HE=>(∃ t0,τ=[t0,some (.ref lf)])/\acc=List.map V.int (((pick (aH (ps.map (·.2))) (ls.map (·.2)) ls.length).take i).filter λz=>decide (z ∉ pick (aH ((ps.map (·.2)).eraseIdx n)) (ls.map (·.2)) ls.length))/\HE=HD) ?_ ?_ ?_ ?_ ?_
   ·exact ⟨⟨_,rfl⟩,rfl,rfl⟩
   ·rw [zA];have:=dQ (aH (ps.map (·.2))) (ls.map (·.2)) ls.length;omega
   ·rintro i τ acc HE ⟨_,rfl,rfl⟩;refine ⟨?_,aL.of hkD⟩;rw [zA];refine yB (List.length_filter_le _ _) ?_;rw [zZ];omega
   ·rintro i v τ acc HE C hv ⟨⟨t0,rfl⟩,rfl,rfl⟩ hC;obtain ⟨z,hz,rfl⟩:=wN hv;refine ⟨_,rfl,_,rfl,lf,_,rfl,.inl (aL.of hD),rfl,dG,_,rfl,?_⟩;by_cases c:z∈pick (aH ((ps.map (·.2)).eraseIdx n)) (ls.map (·.2)) ls.length
    ·refine aE (by show (!sL _ _)=false;rw [cQ,decide_eq_true c];rfl) (hC _ _ _ ⟨⟨_,rfl⟩,?_,rfl⟩);rw [yn,hz,List.filter_append];simp [c]
    ·refine bH (by show (!sL _ _)=true;rw [cQ,decide_eq_false c];rfl) ⟨_,rfl,hC _ _ _ ⟨⟨_,rfl⟩,?_,rfl⟩⟩;rw [yn,hz,List.filter_append];simp [c]
   rintro τ acc HE ⟨_,rfl,rfl⟩ lx hlx;rw [zA,zn,show (pick (aH (ps.map (·.2))) (ls.map (·.2)) ls.length).filter (λz=>decide (z ∉ pick (aH ((ps.map (·.2)).eraseIdx n)) (ls.map (·.2)) ls.length))=pick (bg (ps.map (·.2)) n) (ls.map (·.2)) ls.length from by rw [<-ZY];exact NW];have kF:=xi (o:=HO.lst (List.map V.int (pick (bg (ps.map (·.2)) n) (ls.map (·.2)) ls.length))) hlx;have kF':upd HE lx (HO.lst (List.map V.int (pick (bg (ps.map (·.2)) n) (ls.map (·.2)) ls.length))) lx=some (.lst (List.map V.int (pick (bg (ps.map (·.2)) n) (ls.map (·.2)) ls.length))):=xb;generalize upd HE lx _=HF at kF kF' ⊢;have ZS:=L2.MT.same ZT kF;have VS:bY a.tP H7 HF:=λx u n e=>kF _ _ (b7D x u n e);have b9F:bY a.tP H9 HF:=λx u n e=>kF _ _ (bBD x u n (b9B x u n e));have Y4:=kF _ _ hBD;refine P9 (neg:=true) Y4 kF' ⟨_,rfl,aE rfl ?_⟩;refine ⟨_,rfl,lt,rfl,⟨_,aL.of Y4⟩,?_⟩;refine wv (K:=K) (a:=lt) (xs:=List.map V.int (pick (bg (ps.map (·.2)) n) (ls.map (·.2)) ls.length)) (λi σ HG=>(∃ v8,σ=[some (.ref sa),some (.ref b),some (.ref lw),some (.ref lk),some (.ref lb),some (.int (n:Int)),some (.ref lt),some (.ref lf),v8,v9,v10,v11])/\aB HF HG) ⟨⟨_,rfl⟩,aB.refl _⟩ (λi σ HG _ h=>aL.of (h.2 _ _ Y4)) ?_ ?_
   ·rintro i v σ HG hv ⟨⟨w8,rfl⟩,sG⟩;obtain ⟨z,hz,rfl⟩:=wN hv;obtain ⟨z0,z1⟩:=rj (zB hz);obtain ⟨k,rfl⟩:=zl z0;have hk:k < ls.length:=by omega
    have TM:(ls.map λx=>V.ref x.1)[k]?=some (V.ref ls[k].1):=by simp [hk]
    have XD:(ls.map (·.2))[k]?=some ls[k].2:=by simp [hk]
    have UY:bg (ps.map (·.2)) n ls[k].2=true:=by
     rw [<-di (f:=bg (ps.map (·.2)) n) XD hk];exact decide_eq_true (zB hz)
    have hLG:=(XY.OD u7 VS).same sG;have hxk:=hLG.2 ls[k] (zh hk);have comes:aH (ps.map (·.2)) ls[k].2=true:=by unfold bg at UY;exact (Bool.and_eq_true_iff.mp UY).1
    refine ⟨_,rfl,.int (k:Int), "int", rfl,rfl,_,rfl,aE rfl ?_⟩;refine ⟨_,rfl,_,rfl,_,rfl,_,rfl,lw,_,_,_,rfl,rfl,aL.of hLG.1,wI TM,b,ls[k].1,ls[k].2.s,ls[k].2.w,ls[k].2.a,ls[k].2.z,af,tr,tm,ps,rfl,(SE.aS (MT.fz u7 VS)).same sG,by omega,gd,hxk,λno=>?_,λe l3 ns3 HH fe le _ sH hH _ wk=>?_⟩
    ·have no:aH (ps.map (·.2)) ls[k].2=false:=no;rw [comes] at no;cases no
    ·refine ⟨l3,_,rfl,.inl (aL.of hH),rfl,dG,_,rfl,aE (by show (!sL _ _)=false;rw [cQ,decide_eq_true (Sl gd UY wk le)];rfl) ⟨⟨_,rfl⟩,sG.trans sH⟩⟩
   ·rintro σ HG ⟨⟨w8,rfl⟩,sG⟩;have b7G:bY a.tP H7 HG:=λx u n e=>sG _ _ (VS x u n e);have b9G:bY a.tP H9 HG:=λx u n e=>sG _ _ (b9F x u n e);have mtG:=L2.MT.same ZS sG;have UZ:=Xj.but Xe b9G;have hBG:=sG _ _ Y4;have flb:lt≠lb:=λe=>by rw [e,kA _ _ Xj.1] at fB;cases fB
    have ZO:lb ∉ as++[lt]:=λh=>by
     rcases zT.mp h with h | h
     ·exact ZP h
     ·exact flb (zF.mp h).symm
    refine ⟨_,rfl,.inl ⟨rfl,_,aL.of UZ.1⟩,_,rfl,lb,_,_,rfl,rfl,UZ.1,by rw [zA];omega,as++[lt],⟨_,_,_,_,_,_,_,rfl⟩,by rw [zE,la];rfl,λx u n e=>?_,L2.MT.put mtG UZ.1,ZO,by rw [xb,zI];rfl,λk c hc=>?_⟩
    ·rw [xj (xh e Vo)];exact b7G x u n e
    ·by_cases c0:k < as.length
     ·rw [zU c0] at hc;have h2:=UZ.2 k c hc;rw [xj (λe=>ZP (by rw [<-e];exact zB hc))];exact h2
     ·rw [zY (by omega)] at hc;have:k=as.length:=by
       have:=(zC.mp hc).1;simp at this;omega
      subst this;rw [xD] at hc;cases hc;rw [xj flb,ZY,la];exact hBG
  ·rintro σ H9 ⟨as,⟨v5,v6,v7,v8,v9,v10,v11,rfl⟩,la,b9,Xe,ZP,Xj⟩;rw [Rg,zy] at la;have hb9:=SE.aS (MT.fz u7 b9);have YZ:=XY.OD u7 b9;refine ⟨_,rfl,_,rfl,_,rfl,b,lw,lb,af,tr,tm,ps,ls,as,rfl,hb9,nq,rn,sJ,gd,YZ,l9,la,Xj,Xe,λHA bA mtA=>⟨_,rfl,aE rfl ?_⟩⟩;have Zd:bY a.tP H7 HA:=b9.trans bA;have ZW:=Xj.but Xe bA;refine ⟨_,rfl,sa,ns,2,rfl,MT.seq u7 Zd hS7,by omega,λp HB hp pu sB=>?_⟩;have YV:=(SE.aS (MT.fz u7 Zd)).same sB;have loB:=ZW.same sB;have YH:=L2.MT.same mtA sB;have Zc:bY a.tP H7 HB:=λx u n e=>sB _ _ (Zd x u n e);have fp:H7 p=none:=MT.free mtA Zd hp;have np:∀ c∈lb::as,c≠p:=λc hc e=>by
    rcases zH.mp hc with rfl | hc
    ·rw [<-e,ZW.1] at hp;cases hp
    ·obtain ⟨k,hk⟩:=zx hc;rw [<-e,ZW.2 k c hk] at hp;cases hp
   refine ⟨_,rfl,b,_,_,_,rfl,rfl,cD.of YV.book,rfl,tm,_,rfl,.inr (cD.of YV.meets),?_⟩;rw [Rg];refine ⟨_,_,rfl,_,rfl,?_,?_,?_⟩
   ·split <;> omega
   ·split <;> omega
   refine cW (lo:=0) (λi σ HC=>(∃ v5 v7 v10 v11,σ=[some (.ref sa),some (.ref b),some (.ref lw),some (.ref lk),some (.ref lb),v5,v6,v7,v8,some (.ref p),v10,v11])/\bY a.tP H7 HC/\MT a.tP cg dS HC/\bU HC p/\dW HC lb as (ps.map (·.2)) (ls.map (·.2))) ⟨⟨_,_,_,_,rfl⟩,Zc,YH,pu,loB⟩ ?_ (fun σ HC _=>q HC);rintro n σ HC hn ⟨⟨w5,w7,w10,w11,rfl⟩,bC,ZU,puC,loC⟩;have Rj:n < ps.length:=by revert hn;split <;> intro h <;> omega
   rw [xP];obtain ⟨m,hm⟩:∃ m,(ps.map (·.2))[n]?=some m:=⟨_,zL (by omega)⟩;obtain ⟨c,hc⟩:∃ c,as[n]?=some c:=⟨_,zL (by omega)⟩;have go:∀ {HX HY},Go p HX HY->bY a.tP H7 HX->MT a.tP cg dS HX->bU HX p->dW HX lb as (ps.map (·.2)) (ls.map (·.2))->bY a.tP H7 HY/\MT a.tP cg dS HY/\dW HY lb as (ps.map (·.2)) (ls.map (·.2)):=λg b m pu lo=>⟨λx u n e=>g.1 x u (xh e fp) (b x u n e),L2.MT.go m pu g,g.1 _ _ (np lb (.head _)) lo.1,λk c hk=>g.1 _ _ (np c (.tail _ (zB hk))) (lo.2 k c hk)⟩;refine ⟨_,rfl,_,rfl,_,rfl,p,2,rfl,by decide,by decide,puC,λd HD d0 d1 gD=>?_⟩;obtain ⟨bD,ZT,loD⟩:=go gD bC ZU puC loC;have dd:d=0\/d=1:=by omega
   refine ⟨p,b,d,af,tr,tm,ps,rfl,dd,SE.aS (MT.fz u7 bD),gd,gD.2,λw HE w0 w1 gE=>?_⟩;obtain ⟨bE,YG,loE⟩:=go gE bD ZT gD.2 loD;refine ⟨_,_,rfl,?_⟩;obtain ⟨u,hu0,u1,u2⟩:∃ u:Int,(if w > 1 then w else 1)=u/\1<=u/\u<=1000000000:=⟨_,rfl,by split <;> omega,by split <;> omega⟩;rw [hu0];have hbE:=SE.aS (MT.fz u7 bE);have TM:(as.map V.ref)[n]?=some (V.ref c):=by rw [zS,hc];rfl
   refine ⟨_,rfl,_,rfl,_,rfl,b,n,u,m,af,tr,tm,ps,rfl,hbE,nq,rn,sJ,gd,hm,u1,u2,YG,λHF sF=>⟨_,rfl,_,rfl,aE rfl ⟨⟨_,_,_,_,rfl⟩,λx u n e=>sF _ _ (bE x u n e),L2.MT.same YG sF,gE.2.same sF,loE.same sF⟩⟩,λb' lY lZ fF HF bF ZS hbF gdF pm=>⟨_,rfl,_,rfl,bH rfl ?_⟩⟩;have VS:bY a.tP H7 HF:=bE.trans bF;have loF:=loE.but YG bF;have puF:=MT.WY YG bF gE.2;refine ⟨_,rfl,_,rfl,b',lw,af,lY,lZ,fF,ls,rfl,hbF,rn,gdF,XY.OD u7 VS,l9,λl3 HG sG f3 h3=>?_⟩;have UZ:=loF.same sG;have pl:=dQ (aH (fF.map (·.2))) (ls.map (·.2)) ls.length;have pl2:=dQ (bg (ps.map (·.2)) n) (ls.map (·.2)) (ls.map (·.2)).length;refine ⟨_,rfl,_,rfl,lb,_,_,_,rfl,rfl,aL.of UZ.1,wI TM,l3,c,_,_,rfl,rfl,h3,UZ.2 n c hc,by rw [zA,zA];omega,λl4 XI=>?_⟩;have kH:=xi (o:=HO.lst (List.map V.int (pick (aH (fF.map (·.2))) (ls.map (·.2)) ls.length)++List.map V.int (pick (bg (ps.map (·.2)) n) (ls.map (·.2)) (ls.map (·.2)).length))) XI;have kH':upd HG l4 (HO.lst (List.map V.int (pick (aH (fF.map (·.2))) (ls.map (·.2)) ls.length)++List.map V.int (pick (bg (ps.map (·.2)) n) (ls.map (·.2)) (ls.map (·.2)).length))) l4=some (.lst (List.map V.int (pick (aH (fF.map (·.2))) (ls.map (·.2)) ls.length++pick (bg (ps.map (·.2)) n) (ls.map (·.2)) (ls.map (·.2)).length))):=by rw [xb,zI]
   generalize upd HG l4 _=HH at kH kH' ⊢;have sFH:=sG.trans kH;have b7H:bY a.tP H7 HH:=λx u n e=>sFH _ _ (VS x u n e);have hkH:=MT.keep u7 b7H h7 (by intro ys z;cases z);refine ⟨_,rfl,lk,rfl,⟨_,aL.of hkH⟩,?_⟩;refine dH (K:=K) (a:=lk) (xs:=List.map V.int (pick (aH (ps.map (·.2))) (ls.map (·.2)) ls.length)) (λi τ acc HI=>(∃ t0,τ=[t0,some (.ref l4)])/\acc=[]/\HI=HH) ?_ ?_ ?_ ?_ ?_
   ·exact ⟨⟨_,rfl⟩,rfl,rfl⟩
   ·rw [zA];have:=dQ (aH (ps.map (·.2))) (ls.map (·.2)) ls.length;omega
   ·rintro i τ acc HI ⟨_,rfl,rfl⟩;exact ⟨zb _,aL.of hkH⟩
   ·rintro i v τ acc HI C hv ⟨⟨t0,rfl⟩,rfl,rfl⟩ hC;obtain ⟨z,hz,rfl⟩:=wN hv;have zin:z∈pick (aH (fF.map (·.2))) (ls.map (·.2)) ls.length++pick (bg (ps.map (·.2)) n) (ls.map (·.2)) (ls.map (·.2)).length:=by
     obtain ⟨z0,z1⟩:=rj (zB hz);obtain ⟨k,rfl⟩:=zl z0;have hk:k < ls.length:=by omega
     have XD:(ls.map (·.2))[k]?=some ls[k].2:=by simp [hk]
     have cm:aH (ps.map (·.2)) ls[k].2=true:=by rw [<-di (f:=aH (ps.map (·.2))) XD hk];exact decide_eq_true (zB hz)
     cases cl:bg (ps.map (·.2)) n ls[k].2 with
     | true=>exact zK _ (of_decide_eq_true (by rw [di XD (by rw [ZY];exact hk)];exact cl))
     | false=>
      have ce:aH ((ps.map (·.2)).eraseIdx n) ls[k].2=true:=by
       unfold bg at cl;rw [cm,Bool.true_and] at cl;cases h:aH ((ps.map (·.2)).eraseIdx n) ls[k].2 with
       | true=>rfl
       | false=>rw [h] at cl;cases cl
      exact zd _ (of_decide_eq_true (by rw [di XD hk];exact t7 gdF pm ce))
    refine ⟨_,rfl,_,rfl,l4,_,rfl,.inl (aL.of kH'),rfl,dG,_,rfl,aE (by show (!sL _ _)=false;rw [cQ,decide_eq_true zin];rfl) (hC _ _ _ ⟨⟨_,rfl⟩,rfl,rfl⟩)⟩
   rintro τ acc HI ⟨_,rfl,rfl⟩ lx hlx;have kI:=xi (o:=HO.lst []) hlx;refine ⟨by show 0<=sizeLine;omega,λly hly=>?_⟩;have kJ:=xi (o:=HO.lst []) hly;have YK:=sFH.trans (kI.trans kJ);refine ⟨1,lx,ly,[],[],λ_=>true,true,by decide,rfl,rfl,.inl ⟨aL.of (kJ _ _ xb),aL.of xb⟩,rfl,(λi x y hx hy=>by simp at hy),?_⟩;exact ⟨_,rfl,aE rfl ⟨⟨_,_,_,_,rfl⟩,λx u n e=>YK _ _ (VS x u n e),L2.MT.same ZS YK,puF.same YK,loF.same YK⟩⟩
end
theorem all_mk {l:PySem.W.OpenLaw}{w:World}{K:PySem.W.Frag}{h:Heap}{mg:Str->Option Value}{fa Jn Et Fg Gd Es Fh Do Fi Ff DV F8 Fb GY F9 GX Fe Ep BN DE Fa Ch Fc G0 KB F5 F7 DD GW F6 BP Du De B8 Bh Df Dg Fd Dm CV Gb Ga DU Gc Eo Ia GZ KC Er Cj Ci Eu LE tC tP AJ Bo Aa:Addr}(X:K.In h)(G:h.Ns mainGlobals mg)(hfa:mg "law" = some (.ref fa))
  {Fu Cd Cz C7 Cc CC A5 CD Cy BJ C2 Ct Dx C3 Dw Cw Ca Au Bj Bn AA Cu Dz G1 CW CZ Bi Dv CY AM Cf BK AZ AC BL BM Cv A4 AY C5 C4 BI C6 B9 D4 Dy G2 Cb AH AB Ce IS:FuncData}{au:Tok}{aj:Tok}{ak:Tok}{ah:Tok}{aq:Tok}
  (DM:zJ K mainGlobals "_wall" = some (some (.ref Jn))) (Fv:bI K "_wall" "_wall" K0 Jn Fu)
  (Ba:zJ K mainGlobals "_law_purse" = some (some (.ref Et))) (BG:bI K "_law_purse" "_law_purse" Ef Et Cd)
  (Bv:zJ K mainGlobals "_law_take" = some (some (.ref Fg))) (B5:bI K "_law_take" "_law_take" ET Fg Cz)
  (BY:zJ K mainGlobals "_law_far" = some (some (.ref Gd))) (Cs:bI K "_law_far" "_law_far" F1 Gd C7)
  (A9:zJ K mainGlobals "_law_rooms" = some (some (.ref Es))) (BF:bI K "_law_rooms" "_law_rooms" Ee Es Cc)
  (Bw:zJ K mainGlobals "_law_step" = some (some (.ref Fh))) (B6:bI K "_law_step" "_law_step" EU Fh CC)
  (AF:zJ K mainGlobals "_law_meetings" = some (some (.ref Do))) (AO:bI K "_law_meetings" "_law_meetings" wx Do A5)
  (Bx:zJ K mainGlobals "_law_book" = some (some (.ref Fi))) (B7:bI K "_law_book" "_law_book" EV Fi CD)
  (Bu:zJ K mainGlobals "_law_time" = some (some (.ref Ff))) (B4:bI K "_law_time" "_law_time" ER Ff Cy)
  (AR:zJ K mainGlobals "_law_letter" = some (some (.ref DV))) (Bf:bI K "_law_letter" "_law_letter" DO DV BJ)
  (BT:zJ K mainGlobals "is_whole" = some (some (.ref F8))) (Cn:bI K "is_whole" "is_whole" FV F8 C2)
  (Bq:zJ K mainGlobals "is_within" = some (some (.ref Fb))) (B0:bI K "is_within" "is_within" EN Fb Ct)
  (CI:zJ K mainGlobals "is_time" = some (some (.ref GY))) (Da:bI K "is_time" "is_time" GL GY Dx)
  (BU:zJ K mainGlobals "is_below" = some (some (.ref F9))) (Co:bI K "is_below" "is_below" FW F9 C3)
  (CG:zJ K mainGlobals "is_upto" = some (some (.ref GX))) (C9:bI K "is_upto" "is_upto" GK GX Dw)
  (Bt:zJ K mainGlobals "are_rooms" = some (some (.ref Fe))) (B3:bI K "are_rooms" "are_rooms" DK Fe Cw)
  (A7:zJ K mainGlobals "is_meeting" = some (some (.ref Ep))) (BD:bI K "is_meeting" "is_meeting" Ec Ep Ca)
  (Ah:zJ K mainGlobals "meets_twice_at_once" = some (some (.ref BN))) (Ap:bI K "meets_twice_at_once" "meets_twice_at_once" wn BN Au)
  (AL:zJ K mainGlobals "lesser_first" = some (some (.ref DE))) (A3:bI K "lesser_first" "lesser_first" DC DE Bj)
  (Bp:zJ K mainGlobals "made_book" = some (some (.ref Fa))) (BZ:bI K "made_book" "made_book" DJ Fa Bn)
  (Aj:zJ K mainGlobals "is_meeting_number" = some (some (.ref Ch))) (Ar:bI K "is_meeting_number" "is_meeting_number" wu Ch AA)
  (Br:zJ K mainGlobals "is_walker" = some (some (.ref Fc))) (B1:bI K "is_walker" "is_walker" EO Fc Cu)
  (CK:zJ K mainGlobals "by_time" = some (some (.ref G0))) (Dc:bI K "by_time" "by_time" Fp G0 Dz)
  (Fk:zJ K mainGlobals "ways" = some (some (.ref KB))) (Gf:bI K "ways" "ways" Kc KB G1)
  (BQ:zJ K mainGlobals "other_at" = some (some (.ref F5))) (Ck:bI K "other_at" "other_at" FT F5 CW)
  (BS:zJ K mainGlobals "lone_row" = some (some (.ref F7))) (Cm:bI K "lone_row" "lone_row" Eb F7 CZ)
  (AK:zJ K mainGlobals "need_meeting" = some (some (.ref DD))) (A2:bI K "need_meeting" "need_meeting" DB DD Bi)
  (CF:zJ K mainGlobals "without" = some (some (.ref GW))) (C8:bI K "without" "without" Fo GW Dv)
  (BR:zJ K mainGlobals "moved_to" = some (some (.ref F6))) (Cl:bI K "moved_to" "moved_to" FU F6 CY)
  (Ai:zW K (.ref Aa) "__init__" = some (some (.ref BP))) (BO:ye K (.ref BP)=true) (At:bI K "__init__" "Stream.__init__" wo BP AM)
  (Bc:zW K (.ref Aa) "tie" = some (some (.ref Du))) (Em:ye K (.ref Du)=true) (Bd:bI K "tie" "Stream.tie" Ei Du Cf)
  (AT:zW K (.ref Aa) "sent" = some (some (.ref De))) (DR:ye K (.ref De)=true) (AW:bI K "sent" "Stream.sent" DP De BK)
  (Ax:zW K (.ref Aa) "came_to" = some (some (.ref B8))) (CT:ye K (.ref B8)=true) (Ay:bI K "came_to" "Stream.came_to" CP B8 AZ)
  (Am:zW K (.ref Aa) "sent_along" = some (some (.ref Bh))) (Cg:ye K (.ref Bh)=true) (Ao:bI K "sent_along" "Stream.sent_along" wY Bh AC)
  (AU:zW K (.ref Aa) "send" = some (some (.ref Df))) (DS:ye K (.ref Df)=true) (AX:bI K "send" "Stream.send" DQ Df BL)
  (AV:zW K (.ref Aa) "near" = some (some (.ref Dg))) (DT:ye K (.ref Dg)=true) (Bg:bI K "near" "Stream.near" FR Dg BM)
  (Bs:zJ K mainGlobals "is_letter" = some (some (.ref Fd))) (B2:bI K "is_letter" "is_letter" EQ Fd Cv)
  (AD:zJ K mainGlobals "first_givings" = some (some (.ref Dm))) (AN:bI K "first_givings" "first_givings" Dl Dm A4)
  (Aw:zJ K mainGlobals "earliest_times" = some (some (.ref CV))) (AI:bI K "earliest_times" "earliest_times" CO CV AY)
  (BW:zJ K mainGlobals "earliest" = some (some (.ref Gb))) (Cq:bI K "earliest" "earliest" FY Gb C5)
  (BV:zJ K mainGlobals "giver_of" = some (some (.ref Ga))) (Cp:bI K "giver_of" "giver_of" FX Ga C4)
  (AQ:zJ K mainGlobals "givers_sent" = some (some (.ref DU))) (Be:bI K "givers_sent" "givers_sent" ww DU BI)
  (BX:zJ K mainGlobals "chain_by" = some (some (.ref Gc))) (Cr:bI K "chain_by" "chain_by" FZ Gc C6)
  (A6:zJ K mainGlobals "two_chains" = some (some (.ref Eo))) (BC:bI K "two_chains" "two_chains" Dt Eo B9)
  (Dk:zJ K mainGlobals "stands" = some (some (.ref Ia))) (DG:bI K "stands" "stands" HK Ia D4)
  (CJ:zJ K mainGlobals "is_lost" = some (some (.ref GZ))) (Db:bI K "is_lost" "is_lost" GM GZ Dy)
  (Fl:zJ K mainGlobals "lost" = some (some (.ref KC))) (Gg:bI K "lost" "lost" IU KC G2)
  (A8:zJ K mainGlobals "_law_whole" = some (some (.ref Er))) (BE:bI K "_law_whole" "_law_whole" Ed Er Cb)
  (Aq:zJ K mainGlobals "_law_with_chains" = some (some (.ref Cj))) (Av:bI K "_law_with_chains" "_law_with_chains" we Cj AH)
  (Al:zJ K mainGlobals "_law_stands_right" = some (some (.ref Ci))) (As:bI K "_law_stands_right" "_law_stands_right" wZ Ci AB)
  (Bb:zJ K mainGlobals "_law_moved" = some (some (.ref Eu))) (BH:bI K "_law_moved" "_law_moved" Eg Eu Ce)
  (GE:zJ K mainGlobals "law" = some (some (.ref LE))) (Hl:bI K "law" "law" IN LE IS)
  (z_all:zJ K mainGlobals "all" = some none)
  (z_bool:zJ K mainGlobals "bool" = some none)
  (z_enumerate:zJ K mainGlobals "enumerate" = some none)
  (z_int:zJ K mainGlobals "int" = some none)
  (z_isinstance:zJ K mainGlobals "isinstance" = some none)
  (z_len:zJ K mainGlobals "len" = some none)
  (z_list:zJ K mainGlobals "list" = some none)
  (z_max:zJ K mainGlobals "max" = some none)
  (z_min:zJ K mainGlobals "min" = some none)
  (z_range:zJ K mainGlobals "range" = some none)
  (z_set:zJ K mainGlobals "set" = some none)
  (z_sorted:zJ K mainGlobals "sorted" = some none)
  (z_tuple:zJ K mainGlobals "tuple" = some none)
  (g_LAST_TIME:zJ K mainGlobals "LAST_TIME" = some (some (.int 1000000000 au)))
  (g_MOST_WALKERS:zJ K mainGlobals "MOST_WALKERS" = some (some (.int 12 aj)))
  (g_MOST_ROOM:zJ K mainGlobals "MOST_ROOM" = some (some (.int 99 ak)))
  (g_MOST_MEETINGS:zJ K mainGlobals "MOST_MEETINGS" = some (some (.int 60 ah)))
  (g_MOST_MANY:zJ K mainGlobals "MOST_MANY" = some (some (.int 99 aq)))
  (Id:zJ K mainGlobals "NoBook" = some (some (.ref AJ)))
  (Fj:zJ K mainGlobals "NoMeeting" = some (some (.ref Bo)))
  (Ic:zJ K mainGlobals "Stream" = some (some (.ref Aa)))
  (GO:xM K Aa Str.empty=true) (GV:PySem.W.hasDictIn K Aa=true) (GN:PySem.W.plainOver K Aa=true) (GJ:zW K (.ref Aa) "__setattr__" = some (some (.builtin "object.__setattr__")))
  (GQ:PySem.W.makesIn K Aa=true) (GS:zG K (.ref Aa)=true)
  (nf_Stream_source:zW K (.ref Aa) "source" = some none)
  (nf_Stream_arcs:zW K (.ref Aa) "arcs" = some none)
  (nf_Stream_ends:zW K (.ref Aa) "ends" = some none)
  (nf_Stream_spare:zW K (.ref Aa) "spare" = some none)
  (GI:Mv K AJ=true)
  (Ea:Mv K Bo=true)
  (ff_f_bb:PySem.W.exmOne K (.ref AJ) (.ref AJ)=some true)
  (h_cd:Bn.code=.ref tC) (h_hd:PySem.W.codeHdIn K tC tP=true) :
  ∃ fd:FuncData,(∃ c,PySem.W.codeHdIn K c tP=true)/\(∀ (s:Shared) (v:Value),BindsTo s fd ⟨[v],[]⟩ [("_law_script", v)])/\∀ base:Heap,K.In base->base.Ns mainGlobals mg->br mg base->aV l.prog w K mg base cR 8 fa fd ["_law_script"] (qU K tP cg):=by
 have e:=hfa.symm.trans (zM X G GE);cases e;have LD:=Fv.binds (ps:=["k"]) λ_ _ _ _ _ _ us hl=>ON hl λ_=>rfl;have Js:=BG.binds (ps:=["_law_script", "_law_k"]) λ_ _ _ _ _ _ us hl=>mJ hl λ_ _=>rfl;have J1:=B5.binds (ps:=["_law_purse_here", "_law_many"]) λ_ _ _ _ _ _ us hl=>mJ hl λ_ _=>rfl;have KM:=Cs.binds (ps:=["_law_purse_here"]) λ_ _ _ _ _ _ us hl=>ON hl λ_=>rfl;have Jr:=BF.binds (ps:=["_law_purse_here", "_law_walkers"]) λ_ _ _ _ _ _ us hl=>mJ hl λ_ _=>rfl;have J5:=B6.binds (ps:=["_law_purse_here"]) λ_ _ _ _ _ _ us hl=>ON hl λ_=>rfl;have Hs:=AO.binds (ps:=["_law_purse_here", "_law_walkers", "_law_most"]) λ_ _ _ _ _ _ us hl=>u5 hl λ_ _ _=>rfl;have J6:=B7.binds (ps:=["_law_purse_here", "_law_most_walkers", "_law_most_meetings"]) λ_ _ _ _ _ _ us hl=>u5 hl λ_ _ _=>rfl;have J0:=B4.binds (ps:=["_law_purse_here", "_law_book_here", "_law_later"]) λ_ _ _ _ _ _ us hl=>u5 hl λ_ _ _=>rfl;have IC:=Bf.binds (ps:=["_law_purse_here", "_law_book_here"]) λ_ _ _ _ _ _ us hl=>mJ hl λ_ _=>rfl;have KH:=Cn.binds (ps:=["thing"]) λ_ _ _ _ _ _ us hl=>ON hl λ_=>rfl;have JW:=B0.binds (ps:=["thing", "least", "most"]) λ_ _ _ _ _ _ us hl=>u5 hl λ_ _ _=>rfl;have Le:=Da.binds (ps:=["thing"]) λ_ _ _ _ _ _ us hl=>ON hl λ_=>rfl;have KI:=Co.binds (ps:=["number", "bound"]) λ_ _ _ _ _ _ us hl=>mJ hl λ_ _=>rfl;have Ld:=C9.binds (ps:=["number", "bound"]) λ_ _ _ _ _ _ us hl=>mJ hl λ_ _=>rfl;have JZ:=B3.binds (ps:=["thing"]) λ_ _ _ _ _ _ us hl=>ON hl λ_=>rfl;have Jp:=BD.binds (ps:=["walkers", "thing"]) λ_ _ _ _ _ _ us hl=>mJ hl λ_ _=>rfl;have EH:=Ap.binds (ps:=["meetings"]) λ_ _ _ _ _ _ us hl=>ON hl λ_=>rfl;have Ig:=A3.binds (ps:=["meeting"]) λ_ _ _ _ _ _ us hl=>ON hl λ_=>rfl;have JV:=BZ.binds (ps:=["rooms", "meetings"]) λ_ _ _ _ _ _ us hl=>mJ hl λ_ _=>rfl;have FD:=Ar.binds (ps:=["book", "thing"]) λ_ _ _ _ _ _ us hl=>mJ hl λ_ _=>rfl;have JX:=B1.binds (ps:=["book", "thing"]) λ_ _ _ _ _ _ us hl=>mJ hl λ_ _=>rfl;have Lg:=Dc.binds (ps:=["book", "time"]) λ_ _ _ _ _ _ us hl=>mJ hl λ_ _=>rfl;have LJ:=Gf.binds (ps:=["book"]) λ_ _ _ _ _ _ us hl=>ON hl λ_=>rfl;have KD:=Ck.binds (ps:=["book", "number", "walker"]) λ_ _ _ _ _ _ us hl=>u5 hl λ_ _ _=>rfl;have KG:=Cm.binds (ps:=["book", "walker", "number"]) λ_ _ _ _ _ _ us hl=>u5 hl λ_ _ _=>rfl;have Ie:=A2.binds (ps:=["book", "meeting"]) λ_ _ _ _ _ _ us hl=>mJ hl λ_ _=>rfl;have Lc:=C8.binds (ps:=["book", "meeting"]) λ_ _ _ _ _ _ us hl=>mJ hl λ_ _=>rfl;have KF:=Cl.binds (ps:=["book", "meeting", "when"]) λ_ _ _ _ _ _ us hl=>u5 hl λ_ _ _=>rfl;have GD:=At.binds (ps:=["self", "many"]) λ_ _ _ _ _ _ us hl=>mJ hl λ_ _=>rfl;have Ju:=Bd.binds (ps:=["self", "here", "there", "most"]) λ_ _ _ _ _ _ us hl=>us4 hl λ_ _ _ _=>rfl;have ID:=AW.binds (ps:=["self", "tie"]) λ_ _ _ _ _ _ us hl=>mJ hl λ_ _=>rfl;have G4:=Ay.binds (ps:=["self", "goal"]) λ_ _ _ _ _ _ us hl=>mJ hl λ_ _=>rfl;have FF:=Ao.binds (ps:=["self", "came", "goal"]) λ_ _ _ _ _ _ us hl=>u5 hl λ_ _ _=>rfl;have IE:=AX.binds (ps:=["self", "source", "goal"]) λ_ _ _ _ _ _ us hl=>u5 hl λ_ _ _=>rfl;have IF:=Bg.binds (ps:=["self"]) λ_ _ _ _ _ _ us hl=>ON hl λ_=>rfl;have JY:=B2.binds (ps:=["book", "thing"]) λ_ _ _ _ _ _ us hl=>mJ hl λ_ _=>rfl;have Hr:=AN.binds (ps:=["book", "sender", "since"]) λ_ _ _ _ _ _ us hl=>u5 hl λ_ _ _=>rfl;have G3:=AI.binds (ps:=["book", "sender", "since"]) λ_ _ _ _ _ _ us hl=>u5 hl λ_ _ _=>rfl;have KK:=Cq.binds (ps:=["book", "letter"]) λ_ _ _ _ _ _ us hl=>mJ hl λ_ _=>rfl;have KJ:=Cp.binds (ps:=["meeting", "sent"]) λ_ _ _ _ _ _ us hl=>mJ hl λ_ _=>rfl;have IB:=Be.binds (ps:=["book", "letter"]) λ_ _ _ _ _ _ us hl=>mJ hl λ_ _=>rfl;have KL:=Cr.binds (ps:=["book", "letter", "givers"]) λ_ _ _ _ _ _ us hl=>u5 hl λ_ _ _=>rfl;have Jo:=BC.binds (ps:=["book", "letter"]) λ_ _ _ _ _ _ us hl=>mJ hl λ_ _=>rfl;have Ls:=DG.binds (ps:=["book", "letter"]) λ_ _ _ _ _ _ us hl=>mJ hl λ_ _=>rfl;have Lf:=Db.binds (ps:=["book", "rest", "letter"]) λ_ _ _ _ _ _ us hl=>u5 hl λ_ _ _=>rfl;have LK:=Gg.binds (ps:=["book", "letters", "meeting"]) λ_ _ _ _ _ _ us hl=>u5 hl λ_ _ _=>rfl;have Jq:=BE.binds (ps:=["_law_thing"]) λ_ _ _ _ _ _ us hl=>ON hl λ_=>rfl;have Ge:=Av.binds (ps:=["_law_book_here", "_law_letters"]) λ_ _ _ _ _ _ us hl=>mJ hl λ_ _=>rfl;have FE:=As.binds (ps:=["_law_book_here", "_law_letters", "_law_lost_by"]) λ_ _ _ _ _ _ us hl=>u5 hl λ_ _ _=>rfl;have Jt:=BH.binds (ps:=["_law_book_here", "_law_at", "_law_when"]) λ_ _ _ _ _ _ us hl=>u5 hl λ_ _ _=>rfl;have LN:=Hl.binds (ps:=["_law_script"]) λ_ _ _ _ _ _ us hl=>ON hl λ_=>rfl;have T:Tx K mg ⟨Jn,Fu,Et,Cd,Fg,Cz,Gd,C7,Es,Cc,Fh,CC,Do,A5,Fi,CD,Ff,Cy,DV,BJ,F8,C2,Fb,Ct,GY,Dx,F9,C3,GX,Dw,Fe,Cw,Ep,Ca,BN,Au,DE,Bj,Fa,Bn,Ch,AA,Fc,Cu,G0,Dz,KB,G1,F5,CW,F7,CZ,DD,Bi,GW,Dv,F6,CY,BP,AM,Du,Cf,De,BK,B8,AZ,Bh,AC,Df,BL,Dg,BM,Fd,Cv,Dm,A4,CV,AY,Gb,C5,Ga,C4,DU,BI,Gc,C6,Eo,B9,Ia,D4,GZ,Dy,KC,G2,Er,Cb,Cj,AH,Ci,AB,Eu,Ce,fa,IS,tC,tP,AJ,Bo,Aa⟩ au aj ak ah aq:=⟨Fv,LD,zM X G DM,Fv.kp,BG,Js,zM X G Ba,BG.kp,B5,J1,zM X G Bv,B5.kp,Cs,KM,zM X G BY,Cs.kp,BF,Jr,zM X G A9,BF.kp,B6,J5,zM X G Bw,B6.kp,AO,Hs,zM X G AF,AO.kp,B7,J6,zM X G Bx,B7.kp,B4,J0,zM X G Bu,B4.kp,Bf,IC,zM X G AR,Bf.kp,Cn,KH,zM X G BT,Cn.kp,B0,JW,zM X G Bq,B0.kp,Da,Le,zM X G CI,Da.kp,Co,KI,zM X G BU,Co.kp,C9,Ld,zM X G CG,C9.kp,B3,JZ,zM X G Bt,B3.kp,BD,Jp,zM X G A7,BD.kp,Ap,EH,zM X G Ah,Ap.kp,A3,Ig,zM X G AL,A3.kp,BZ,JV,zM X G Bp,BZ.kp,Ar,FD,zM X G Aj,Ar.kp,B1,JX,zM X G Br,B1.kp,Dc,Lg,zM X G CK,Dc.kp,Gf,LJ,zM X G Fk,Gf.kp,Ck,KD,zM X G BQ,Ck.kp,Cm,KG,zM X G BS,Cm.kp,A2,Ie,zM X G AK,A2.kp,C8,Lc,zM X G CF,C8.kp,Cl,KF,zM X G BR,Cl.kp,At,GD,⟨Ai,BO,At.kp⟩,At.kp,Bd,Ju,⟨Bc,Em,Bd.kp⟩,Bd.kp,AW,ID,⟨AT,DR,AW.kp⟩,AW.kp,Ay,G4,⟨Ax,CT,Ay.kp⟩,Ay.kp,Ao,FF,⟨Am,Cg,Ao.kp⟩,Ao.kp,AX,IE,⟨AU,DS,AX.kp⟩,AX.kp,Bg,IF,⟨AV,DT,Bg.kp⟩,Bg.kp,B2,JY,zM X G Bs,B2.kp,AN,Hr,zM X G AD,AN.kp,AI,G3,zM X G Aw,AI.kp,Cq,KK,zM X G BW,Cq.kp,Cp,KJ,zM X G BV,Cp.kp,Be,IB,zM X G AQ,Be.kp,Cr,KL,zM X G BX,Cr.kp,BC,Jo,zM X G A6,BC.kp,DG,Ls,zM X G Dk,DG.kp,Db,Lf,zM X G CJ,Db.kp,Gg,LK,zM X G Fl,Gg.kp,BE,Jq,zM X G A8,BE.kp,Av,Ge,zM X G Aq,Av.kp,As,FE,zM X G Al,As.kp,BH,Jt,zM X G Bb,BH.kp,Hl,LN,zM X G GE,Hl.kp,zu X G z_all,zu X G z_bool,zu X G z_enumerate,zu X G z_int,zu X G z_isinstance,zu X G z_len,zu X G z_list,zu X G z_max,zu X G z_min,zu X G z_range,zu X G z_set,zu X G z_sorted,zu X G z_tuple,h_hd,h_cd,zM X G Id,zM X G Fj,zM X G Ic,Mq.of GI,Mq.of Ea,⟨GO,GV,GN,GJ⟩,⟨GQ,Ai,BO,GS⟩,nf_Stream_source,nf_Stream_arcs,nf_Stream_ends,nf_Stream_spare,ff_f_bb,zM X G g_LAST_TIME,zM X G g_MOST_WALKERS,zM X G g_MOST_ROOM,zM X G g_MOST_MEETINGS,zM X G g_MOST_MANY⟩;obtain ⟨_,_,_,_,_,_,_,_,_,rfl,_,_⟩:=Hl.ex;exact ⟨_,⟨tC,h_hd⟩,λs v=>.of_eq rfl,λbase _ _ B=>LF T B⟩
theorem walk {l:PySem.W.OpenLaw}{q:Program}{loose:List Str}{XP:(Str->Option Value)->Heap->Prop}{YP:World->Heap->Prop}{d:DefRec}{K:Params->PySem.W.Frag}{T:Addr}(hn:l.most=some 63)(XR:d.params.defaults=[])
  (hY:∀ (w:World) (h:Heap),YP w h->(K w.params).In h/\h.get? T=some (PySem.W.tabObj #[])) (nt:∀ w:World,PySem.W.noTabs (K w.params)=true)
  (F:∀ (w:World) (mg:Str->Option Value) (fa:Addr) (h:Heap),(K w.params).In h->h.Ns mainGlobals mg->mg d.name=some (.ref fa) ->
   ∃ fd:FuncData,(∃ c,PySem.W.codeHdIn (K w.params) c T=true)/\(∀ (s:Shared) (u:Value),BindsTo s fd ⟨[u],[]⟩ [("_law_script", u)])/\∀ base:Heap,(K w.params).In base->base.Ns mainGlobals mg->br mg base->aV l.prog w (K w.params) mg base cR 8 fa fd ["_law_script"] (qU (K w.params) T cg)) :
  PySem.W.WalkO q loose XP YP l.row.toRowW d [] (λf vs=>PySem.call f vs):=
 L2.O0 (n:=63) (k:=8) (x := "_law_script") (CX:=λ_=>cR) (sp:=λw=>qU (K w.params) T cg) hn (by decide) XR ⟨rfl,by decide,by decide⟩ hY nt F (λ_ _ a ns hl hT hS=>⟨a,ns,rfl,hS,hl,.inl hT,λ_=>rfl⟩) λ_ _ _ _ _ z=>z
end Sm
namespace PySem.W.Fast
noncomputable def tw15198574523302647942:Nat:=0
noncomputable def tw9583657469096202722:Nat:=0
noncomputable def tw14331646061189948020:Nat:=0
noncomputable def tw7735298312009742091:Nat:=0
noncomputable def tw2644278027592254111:Nat:=0
noncomputable def tw11515563095915438987:Nat:=0
noncomputable def tw16238408532188642688:Nat:=0
noncomputable def tw10316322766049879847:Nat:=0
noncomputable def tw10152305803094946648:Nat:=0
noncomputable def tw1028489781362010926:Nat:=0
noncomputable def tw6021647667733500851:Nat:=0
noncomputable def tw18086662979817574107:Nat:=0
noncomputable def tw6475837389670714938:Nat:=0
noncomputable def tw13291887926114805532:Nat:=0
noncomputable def tw15549124783039660177:Nat:=0
noncomputable def tw6926419977319070659:Nat:=0
noncomputable def tw13673963559041257903:Nat:=0
noncomputable def tw7260662221902317932:Nat:=0
noncomputable def tw16576258875824388283:Nat:=0
noncomputable def tw7855258575982319862:Nat:=0
noncomputable def tw3235963966055109590:Nat:=0
noncomputable def tw3219323722192717986:Nat:=0
noncomputable def tw18183548915878215683:Nat:=0
noncomputable def tw12721014087230421526:Nat:=0
noncomputable def tw10653291571677817162:Nat:=0
noncomputable def tw5499718694233162649:Nat:=0
noncomputable def tw16689599302478659411:Nat:=0
noncomputable def tw2396895054656971374:Nat:=0
noncomputable def tw774483523309375317:Nat:=0
noncomputable def tw5498109920214258277:Nat:=0
noncomputable def tw13016275849913633099:Nat:=0
noncomputable def tw17466412921372449346:Nat:=0
noncomputable def tw7692391918841494956:Nat:=0
noncomputable def tw12304998126759446778:Nat:=0
noncomputable def tw15415231808465176069:Nat:=0
noncomputable def tw12124447055643782124:Nat:=0
noncomputable def tw3071627389748928573:Nat:=0
noncomputable def tw16371739724079261708:Nat:=0
noncomputable def tw15699831490393718413:Nat:=0
noncomputable def tw3646482585211103339:Nat:=0
noncomputable def tw6120898341358136227:Nat:=0
noncomputable def tw17957663072076090600:Nat:=0
noncomputable def tw2701618787551242327:Nat:=0
noncomputable def tw5832714510679164764:Nat:=0
noncomputable def tw11102171802936056400:Nat:=0
noncomputable def tw3856228135443341007:Nat:=0
noncomputable def tw3402760330326537852:Nat:=0
noncomputable def tw3550509344467076252:Nat:=0
noncomputable def tw11746843836817748539:Nat:=0
noncomputable def tw8443472791474262739:Nat:=0
noncomputable def tw2097313946600371574:Nat:=0
noncomputable def tw1186305175485542684:Nat:=0
noncomputable def tw9246378675397382346:Nat:=0
noncomputable def tw10000071643379799107:Nat:=0
noncomputable def tw10595824731234954055:Nat:=0
noncomputable def tw14155815219833681631:Nat:=0
noncomputable def tw12858972623846542543:Nat:=0
noncomputable def tw7724515259531082082:Nat:=0
noncomputable def tw3170207978812011669:Nat:=0
noncomputable def tw14814982275463042842:Nat:=0
noncomputable def tw7639489165790907456:Nat:=0
noncomputable def tw17998446607003570372:Nat:=0
noncomputable def tw16317359249622415133:Nat:=0
noncomputable def tw14457424814607860148:Nat:=0
noncomputable def tw16139039517891152684:Nat:=0
noncomputable def tw8650067966979518561:Nat:=0
noncomputable def tw9071778272713963650:Nat:=0
noncomputable def tw2020958305370688846:Nat:=0
noncomputable def tw17766009923268993103:Nat:=0
noncomputable def tw5853486682048117186:Nat:=0
noncomputable def tw15985737605975765979:Nat:=0
noncomputable def tw1221033584170172055:Nat:=0
noncomputable def tw7218039603753032715:Nat:=0
noncomputable def tw10637818324214166620:Nat:=0
noncomputable def tw7438859366936842291:Nat:=0
noncomputable def tw11717613323935385398:Nat:=0
noncomputable def tw7197809760489050006:Nat:=0
noncomputable def tw2994212995483750728:Nat:=0
noncomputable def tw2218348828935803706:Nat:=0
noncomputable def tw3389551017188139053:Nat:=0
noncomputable def tw7148485852788887043:Nat:=0
noncomputable def tw10392888950053861470:Nat:=0
noncomputable def tw4412343023551761194:Nat:=0
noncomputable def tw9843338170667934870:Nat:=0
noncomputable def tw14240151075751130337:Nat:=0
noncomputable def tw5014056353796235803:Nat:=0
noncomputable def tw9125435505504764188:Nat:=0
noncomputable def tw8636993006278748564:Nat:=0
noncomputable def tw12963738478779929263:Nat:=0
noncomputable def tw12030837562332551471:Nat:=0
noncomputable def tw13127883267265152450:Nat:=0
noncomputable def tw12451999882271653932:Nat:=0
noncomputable def tw3061377242948201765:Nat:=0
noncomputable def tw9754563699509214984:Nat:=0
noncomputable def tw6973925595858988489:Nat:=0
noncomputable def tw14797349079260470361:Nat:=0
noncomputable def tw1880366128405344708:Nat:=0
noncomputable def tw10233816113655232576:Nat:=0
noncomputable def tw8565297545201818814:Nat:=0
noncomputable def tw7132298109478535336:Nat:=0
noncomputable def tw7185595394809118128:Nat:=0
noncomputable def tw15134363386816943706:Nat:=0
noncomputable def tw12299807405799706077:Nat:=0
noncomputable def tw17813682168224394138:Nat:=0
noncomputable def tw8539684260138291802:Nat:=0
noncomputable def tw3859034266664340729:Nat:=0
noncomputable def tw11753954665988254850:Nat:=0
noncomputable def tw4201218871750994068:Nat:=0
noncomputable def tw2099350618477711312:Nat:=0
noncomputable def tw1653249939269136094:Nat:=0
noncomputable def tw593965736371674525:Nat:=0
noncomputable def tw2842236298281430410:Nat:=0
noncomputable def tw16479897454479760993:Nat:=0
noncomputable def tw3785365232444950849:Nat:=0
noncomputable def tw2831266363017361433:Nat:=0
noncomputable def tw4800374857851402859:Nat:=0
noncomputable def tw12218015284833509911:Nat:=0
noncomputable def tw16104285712071678402:Nat:=0
noncomputable def tw9964813336371736782:Nat:=0
noncomputable def tw789641696787568663:Nat:=0
noncomputable def tw10450347268154748818:Nat:=0
noncomputable def tw12354413841374648728:Nat:=0
noncomputable def tw16954477499950638992:Nat:=0
noncomputable def tw15587867722626845546:Nat:=0
noncomputable def tw10464421437249310984:Nat:=0
noncomputable def tw1781947495233259930:Nat:=0
noncomputable def tw3306492833145791855:Nat:=0
noncomputable def tw9135310935721030472:Nat:=0
noncomputable def tw14944926839948589748:Nat:=0
noncomputable def tw2854175859234145889:Nat:=0
noncomputable def tw17827311007886452603:Nat:=0
noncomputable def tw10412747041043088055:Nat:=0
noncomputable def tw13808237877267369588:Nat:=0
noncomputable def tw11010161912617242494:Nat:=0
noncomputable def tw9970892379665876514:Nat:=0
noncomputable def tw15592583892827756169:Nat:=0
noncomputable def tw3565696165734705814:Nat:=0
noncomputable def tw1329860526219377789:Nat:=0
noncomputable def tw8296150093677844919:Nat:=0
noncomputable def tw11797925959540479510:Nat:=0
noncomputable def tw11460613122948335296:Nat:=0
noncomputable def tw2984083876402231861:Nat:=0
noncomputable def tw7626957494192771779:Nat:=0
noncomputable def tw9573510313785890592:Nat:=0
noncomputable def tw5862172858737757295:Nat:=0
noncomputable def tw11070587596253763873:Nat:=0
noncomputable def tw10488809566378971042:Nat:=0
noncomputable def tw13914356191365020674:Nat:=0
noncomputable def tw7501982704926068672:Nat:=0
noncomputable def tw3811709964626035619:Nat:=0
noncomputable def tw3474085209348570490:Nat:=0
noncomputable def tw17561442508318130632:Nat:=0
noncomputable def tw175480308446736389:Nat:=0
noncomputable def tw8363799689079617342:Nat:=0
noncomputable def tw17062455347803294358:Nat:=0
noncomputable def tw785658828139959446:Nat:=0
noncomputable def tw17272852344836489287:Nat:=0
noncomputable def tw5552241528699801040:Nat:=0
noncomputable def tw5577395188604013216:Nat:=0
noncomputable def tw1977100040798173355:Nat:=0
noncomputable def tw16494286024509807490:Nat:=0
noncomputable def tw6912769958023357820:Nat:=0
noncomputable def tw6529478529284076987:Nat:=0
noncomputable def tw14916385172948263287:Nat:=0
noncomputable def tw7671503495068775686:Nat:=0
noncomputable def tw14353055547300245769:Nat:=0
noncomputable def tw1899879729802476580:Nat:=0
noncomputable def tw15605592170068916991:Nat:=0
noncomputable def tw8817949361768802080:Nat:=0
noncomputable def tw13599841879138718680:Nat:=0
noncomputable def tw14907089170524891553:Nat:=0
noncomputable def tw11053808664876147154:Nat:=0
noncomputable def tw839537897022631775:Nat:=0
noncomputable def tw7409448678027542800:Nat:=0
noncomputable def tw11697984702760675840:Nat:=0
noncomputable def tw10196421976209153410:Nat:=0
noncomputable def tw10784477167867484821:Nat:=0
noncomputable def tw8713407782468882994:Nat:=0
noncomputable def tw7714660623843753428:Nat:=0
noncomputable def tw7400875816263726858:Nat:=0
noncomputable def tw10276051253672437759:Nat:=0
noncomputable def tw1793379076989711745:Nat:=0
noncomputable def tw4646838335884624242:Nat:=0
noncomputable def tw2308779935310108667:Nat:=0
noncomputable def tw6694336366268065418:Nat:=0
noncomputable def tw8814454558138453623:Nat:=0
noncomputable def tw7899188695156694627:Nat:=0
noncomputable def tw4026206601469144043:Nat:=0
noncomputable def tw17666281615352120167:Nat:=0
noncomputable def tw12462015429638475805:Nat:=0
noncomputable def tw9035414710020477258:Nat:=0
noncomputable def tw3824121308036521383:Nat:=0
noncomputable def tw9870524257841799427:Nat:=0
noncomputable def tw13355745287836544432:Nat:=0
noncomputable def tw6291304838438888275:Nat:=0
noncomputable def tw3089461654864811306:Nat:=0
noncomputable def tw9234127209810364677:Nat:=0
noncomputable def tw7573775873515881427:Nat:=0
noncomputable def tw835665755106384587:Nat:=0
noncomputable def tw7384127546041813714:Nat:=0
noncomputable def tw4615893029827342818:Nat:=0
noncomputable def tw17536902283673649089:Nat:=0
noncomputable def tw366450487671812226:Nat:=0
noncomputable def tw3399782865020350114:Nat:=0
noncomputable def tw9843222339060628441:Nat:=0
noncomputable def tw5971066752492596609:Nat:=0
noncomputable def tw14440707114964283769:Nat:=0
noncomputable def tw11256066777976468190:Nat:=0
noncomputable def tw7660698087073441456:Nat:=0
noncomputable def tw2659222303411307906:Nat:=0
noncomputable def tw2941057762897582428:Nat:=0
noncomputable def tw16238118270496173194:Nat:=0
noncomputable def tw2946368120486050785:Nat:=0
noncomputable def tw1395412586669492884:Nat:=0
noncomputable def tw10280573921484833179:Nat:=0
noncomputable def tw12462329431977961615:Nat:=0
noncomputable def tw9301333783087498866:Nat:=0
noncomputable def tw13938006451592763542:Nat:=0
noncomputable def tw14384086634571115336:Nat:=0
noncomputable def tw7584171501180642203:Nat:=0
noncomputable def tw8683827470350318437:Nat:=0
noncomputable def tw17933461558090716537:Nat:=0
noncomputable def tw16608269125453739520:Nat:=0
noncomputable def tw17748033249664225181:Nat:=0
noncomputable def tw7074025003098759470:Nat:=0
noncomputable def tw12414029363163397933:Nat:=0
noncomputable def tw12511279372493170666:Nat:=0
noncomputable def tw18073400141822715186:Nat:=0
noncomputable def tw13815855891784328327:Nat:=0
noncomputable def tw16503181548218829139:Nat:=0
noncomputable def tw1534269798802828411:Nat:=0
noncomputable def tw7046345258875831004:Nat:=0
noncomputable def tw7977387033962039563:Nat:=0
noncomputable def tw10663798637031378684:Nat:=0
noncomputable def tw10077622791973301855:Nat:=0
noncomputable def tw14313548729155206019:Nat:=0
noncomputable def tw9919967095211606355:Nat:=0
noncomputable def tw1530281103987219405:Nat:=0
noncomputable def tw2230138969169424308:Nat:=0
noncomputable def tw1738697984389860507:Nat:=0
noncomputable def tw7234923606724656053:Nat:=0
noncomputable def tw10398581024357060164:Nat:=0
noncomputable def tw7515058406766763583:Nat:=0
noncomputable def tw17249819830571452272:Nat:=0
noncomputable def tw18017998009450960034:Nat:=0
noncomputable def tw1491554977576227433:Nat:=0
noncomputable def tw61976716727118052:Nat:=0
noncomputable def tw2777036138026546837:Nat:=0
noncomputable def tw12313309065177260717:Nat:=0
noncomputable def tw13112063478292600677:Nat:=0
noncomputable def tw10568517530400301758:Nat:=0
noncomputable def tw7076332672473811969:Nat:=0
end PySem.W.Fast
open PySem PySem.W PyProof.Rows
set_option maxRecDepth 100000 in
set_option maxHeartbeats 0 in
theorem PySem.Challenge.cw_satchelmeet_k98_whole_missed_and_needed_holds : PySem.Challenge.rw_satchelmeet_k98_whole_missed_and_needed.Holds := by
 w_on;o_law;k_head;(case hw=>w_witness2)
 k_fill
 refine Sm.walk (l:=PySem.Challenge.rw_satchelmeet_k98_whole_missed_and_needed) rfl rfl (λw h Y=>⟨PySem.W.km_in_of Y,PySem.W.km_tabs_of Y _ (List.Mem.head _)⟩) (λw=>by kernel_rfl) ?F
 case F=>
  intro w mg fa h KX G hmg
  refine' Sm.all_mk KX G hmg ?DM ?Fv ?Ba ?BG ?Bv ?B5 ?BY ?Cs ?A9 ?BF ?Bw ?B6 ?AF ?AO ?Bx ?B7 ?Bu ?B4 ?AR ?Bf ?BT ?Cn ?Bq ?B0 ?CI ?Da ?BU ?Co ?CG ?C9 ?Bt ?B3 ?A7 ?BD ?Ah ?Ap ?AL ?A3 ?Bp ?BZ ?Aj ?Ar ?Br ?B1 ?CK ?Dc ?Fk ?Gf ?BQ ?Ck ?BS ?Cm ?AK ?A2 ?CF ?C8 ?BR ?Cl ?Ai ?BO ?At ?Bc ?Em ?Bd ?AT ?DR ?AW ?Ax ?CT ?Ay ?Am ?Cg ?Ao ?AU ?DS ?AX ?AV ?DT ?Bg ?Bs ?B2 ?AD ?AN ?Aw ?AI ?BW ?Cq ?BV ?Cp ?AQ ?Be ?BX ?Cr ?A6 ?BC ?Dk ?DG ?CJ ?Db ?Fl ?Gg ?A8 ?BE ?Aq ?Av ?Al ?As ?Bb ?BH ?GE ?Hl ?z_all ?z_bool ?z_enumerate ?z_int ?z_isinstance ?z_len ?z_list ?z_max ?z_min ?z_range ?z_set ?z_sorted ?z_tuple ?g_LAST_TIME ?g_MOST_WALKERS ?g_MOST_ROOM ?g_MOST_MEETINGS ?g_MOST_MANY ?Id ?Fj ?Ic ?GO ?GV ?GN ?GJ ?GQ ?GS ?nf_Stream_source ?nf_Stream_arcs ?nf_Stream_ends ?nf_Stream_spare ?GI ?Ea ?ff_f_bb ?h_cd ?h_hd
  (case Id=>k_is)
  (case Fj=>k_is)
  (case Ic=>k_is)
  (case DM=>k_is)
  (case Fv=>refine' L2.fun_mk ?x1 ?y1 ?z1;(case x1=>k_is);(case y1=>k_is);(case z1=>k_is))
  (case Ba=>k_is)
  (case BG=>refine' L2.fun_mk ?x3 ?y3 ?z3;(case x3=>k_is);(case y3=>k_is);(case z3=>k_is))
  (case Bv=>k_is)
  (case B5=>refine' L2.fun_mk ?x5 ?y5 ?z5;(case x5=>k_is);(case y5=>k_is);(case z5=>k_is))
  (case BY=>k_is)
  (case Cs=>refine' L2.fun_mk ?x7 ?y7 ?z7;(case x7=>k_is);(case y7=>k_is);(case z7=>k_is))
  (case A9=>k_is)
  (case BF=>refine' L2.fun_mk ?x9 ?y9 ?z9;(case x9=>k_is);(case y9=>k_is);(case z9=>k_is))
  (case Bw=>k_is)
  (case B6=>refine' L2.fun_mk ?x11 ?y11 ?z11;(case x11=>k_is);(case y11=>k_is);(case z11=>k_is))
  (case AF=>k_is)
  (case AO=>refine' L2.fun_mk ?x13 ?y13 ?z13;(case x13=>k_is);(case y13=>k_is);(case z13=>k_is))
  (case Bx=>k_is)
  (case B7=>refine' L2.fun_mk ?x15 ?y15 ?z15;(case x15=>k_is);(case y15=>k_is);(case z15=>k_is))
  (case Bu=>k_is)
  (case B4=>refine' L2.fun_mk ?x17 ?y17 ?z17;(case x17=>k_is);(case y17=>k_is);(case z17=>k_is))
  (case AR=>k_is)
  (case Bf=>refine' L2.fun_mk ?x19 ?y19 ?z19;(case x19=>k_is);(case y19=>k_is);(case z19=>k_is))
  (case BT=>k_is)
  (case Cn=>refine' L2.fun_mk ?x21 ?y21 ?z21;(case x21=>k_is);(case y21=>k_is);(case z21=>k_is))
  (case Bq=>k_is)
  (case B0=>refine' L2.fun_mk ?x23 ?y23 ?z23;(case x23=>k_is);(case y23=>k_is);(case z23=>k_is))
  (case CI=>k_is)
  (case Da=>refine' L2.fun_mk ?x25 ?y25 ?z25;(case x25=>k_is);(case y25=>k_is);(case z25=>k_is))
  (case BU=>k_is)
  (case Co=>refine' L2.fun_mk ?x27 ?y27 ?z27;(case x27=>k_is);(case y27=>k_is);(case z27=>k_is))
  (case CG=>k_is)
  (case C9=>refine' L2.fun_mk ?x29 ?y29 ?z29;(case x29=>k_is);(case y29=>k_is);(case z29=>k_is))
  (case Bt=>k_is)
  (case B3=>refine' L2.fun_mk ?x31 ?y31 ?z31;(case x31=>k_is);(case y31=>k_is);(case z31=>k_is))
  (case A7=>k_is)
  (case BD=>refine' L2.fun_mk ?x33 ?y33 ?z33;(case x33=>k_is);(case y33=>k_is);(case z33=>k_is))
  (case Ah=>k_is)
  (case Ap=>refine' L2.fun_mk ?x35 ?y35 ?z35;(case x35=>k_is);(case y35=>k_is);(case z35=>k_is))
  (case AL=>k_is)
  (case A3=>refine' L2.fun_mk ?x37 ?y37 ?z37;(case x37=>k_is);(case y37=>k_is);(case z37=>k_is))
  (case Bp=>k_is)
  (case BZ=>refine' L2.fun_mk ?x39 ?y39 ?z39;(case x39=>k_is);(case y39=>k_is);(case z39=>k_is))
  (case Aj=>k_is)
  (case Ar=>refine' L2.fun_mk ?x41 ?y41 ?z41;(case x41=>k_is);(case y41=>k_is);(case z41=>k_is))
  (case Br=>k_is)
  (case B1=>refine' L2.fun_mk ?x43 ?y43 ?z43;(case x43=>k_is);(case y43=>k_is);(case z43=>k_is))
  (case CK=>k_is)
  (case Dc=>refine' L2.fun_mk ?x45 ?y45 ?z45;(case x45=>k_is);(case y45=>k_is);(case z45=>k_is))
  (case Fk=>k_is)
  (case Gf=>refine' L2.fun_mk ?x47 ?y47 ?z47;(case x47=>k_is);(case y47=>k_is);(case z47=>k_is))
  (case BQ=>k_is)
  (case Ck=>refine' L2.fun_mk ?x49 ?y49 ?z49;(case x49=>k_is);(case y49=>k_is);(case z49=>k_is))
  (case BS=>k_is)
  (case Cm=>refine' L2.fun_mk ?x51 ?y51 ?z51;(case x51=>k_is);(case y51=>k_is);(case z51=>k_is))
  (case AK=>k_is)
  (case A2=>refine' L2.fun_mk ?x53 ?y53 ?z53;(case x53=>k_is);(case y53=>k_is);(case z53=>k_is))
  (case CF=>k_is)
  (case C8=>refine' L2.fun_mk ?x55 ?y55 ?z55;(case x55=>k_is);(case y55=>k_is);(case z55=>k_is))
  (case BR=>k_is)
  (case Cl=>refine' L2.fun_mk ?x57 ?y57 ?z57;(case x57=>k_is);(case y57=>k_is);(case z57=>k_is))
  (case Ai=>k_is)
  (case BO=>k_is)
  (case At=>refine' L2.fun_mk ?x60 ?y60 ?z60;(case x60=>k_is);(case y60=>k_is);(case z60=>k_is))
  (case Bc=>k_is)
  (case Em=>k_is)
  (case Bd=>refine' L2.fun_mk ?x63 ?y63 ?z63;(case x63=>k_is);(case y63=>k_is);(case z63=>k_is))
  (case AT=>k_is)
  (case DR=>k_is)
  (case AW=>refine' L2.fun_mk ?x66 ?y66 ?z66;(case x66=>k_is);(case y66=>k_is);(case z66=>k_is))
  (case Ax=>k_is)
  (case CT=>k_is)
  (case Ay=>refine' L2.fun_mk ?x69 ?y69 ?z69;(case x69=>k_is);(case y69=>k_is);(case z69=>k_is))
  (case Am=>k_is)
  (case Cg=>k_is)
  (case Ao=>refine' L2.fun_mk ?x72 ?y72 ?z72;(case x72=>k_is);(case y72=>k_is);(case z72=>k_is))
  (case AU=>k_is)
  (case DS=>k_is)
  (case AX=>refine' L2.fun_mk ?x75 ?y75 ?z75;(case x75=>k_is);(case y75=>k_is);(case z75=>k_is))
  (case AV=>k_is)
  (case DT=>k_is)
  (case Bg=>refine' L2.fun_mk ?x78 ?y78 ?z78;(case x78=>k_is);(case y78=>k_is);(case z78=>k_is))
  (case Bs=>k_is)
  (case B2=>refine' L2.fun_mk ?x80 ?y80 ?z80;(case x80=>k_is);(case y80=>k_is);(case z80=>k_is))
  (case AD=>k_is)
  (case AN=>refine' L2.fun_mk ?x82 ?y82 ?z82;(case x82=>k_is);(case y82=>k_is);(case z82=>k_is))
  (case Aw=>k_is)
  (case AI=>refine' L2.fun_mk ?x84 ?y84 ?z84;(case x84=>k_is);(case y84=>k_is);(case z84=>k_is))
  (case BW=>k_is)
  (case Cq=>refine' L2.fun_mk ?x86 ?y86 ?z86;(case x86=>k_is);(case y86=>k_is);(case z86=>k_is))
  (case BV=>k_is)
  (case Cp=>refine' L2.fun_mk ?x88 ?y88 ?z88;(case x88=>k_is);(case y88=>k_is);(case z88=>k_is))
  (case AQ=>k_is)
  (case Be=>refine' L2.fun_mk ?x90 ?y90 ?z90;(case x90=>k_is);(case y90=>k_is);(case z90=>k_is))
  (case BX=>k_is)
  (case Cr=>refine' L2.fun_mk ?x92 ?y92 ?z92;(case x92=>k_is);(case y92=>k_is);(case z92=>k_is))
  (case A6=>k_is)
  (case BC=>refine' L2.fun_mk ?x94 ?y94 ?z94;(case x94=>k_is);(case y94=>k_is);(case z94=>k_is))
  (case Dk=>k_is)
  (case DG=>refine' L2.fun_mk ?x96 ?y96 ?z96;(case x96=>k_is);(case y96=>k_is);(case z96=>k_is))
  (case CJ=>k_is)
  (case Db=>refine' L2.fun_mk ?x98 ?y98 ?z98;(case x98=>k_is);(case y98=>k_is);(case z98=>k_is))
  (case Fl=>k_is)
  (case Gg=>refine' L2.fun_mk ?x100 ?y100 ?z100;(case x100=>k_is);(case y100=>k_is);(case z100=>k_is))
  (case A8=>k_is)
  (case BE=>refine' L2.fun_mk ?x102 ?y102 ?z102;(case x102=>k_is);(case y102=>k_is);(case z102=>k_is))
  (case Aq=>k_is)
  (case Av=>refine' L2.fun_mk ?x104 ?y104 ?z104;(case x104=>k_is);(case y104=>k_is);(case z104=>k_is))
  (case Al=>k_is)
  (case As=>refine' L2.fun_mk ?x106 ?y106 ?z106;(case x106=>k_is);(case y106=>k_is);(case z106=>k_is))
  (case Bb=>k_is)
  (case BH=>refine' L2.fun_mk ?x108 ?y108 ?z108;(case x108=>k_is);(case y108=>k_is);(case z108=>k_is))
  (case GE=>k_is)
  (case Hl=>refine' L2.fun_mk ?x110 ?y110 ?z110;(case x110=>k_is);(case y110=>k_is);(case z110=>k_is))
  (case z_all=>k_is)
  (case z_bool=>k_is)
  (case z_enumerate=>k_is)
  (case z_int=>k_is)
  (case z_isinstance=>k_is)
  (case z_len=>k_is)
  (case z_list=>k_is)
  (case z_max=>k_is)
  (case z_min=>k_is)
  (case z_range=>k_is)
  (case z_set=>k_is)
  (case z_sorted=>k_is)
  (case z_tuple=>k_is)
  (case g_LAST_TIME=>k_is)
  (case g_MOST_WALKERS=>k_is)
  (case g_MOST_ROOM=>k_is)
  (case g_MOST_MEETINGS=>k_is)
  (case g_MOST_MANY=>k_is)
  (case GO=>k_is)
  (case GV=>k_is)
  (case GN=>k_is)
  (case GJ=>k_is)
  (case GQ=>k_is)
  (case GS=>k_is)
  (case nf_Stream_source=>k_is)
  (case nf_Stream_arcs=>k_is)
  (case nf_Stream_ends=>k_is)
  (case nf_Stream_spare=>k_is)
  (case GI=>kernel_rfl)
  (case Ea=>kernel_rfl)
  (case ff_f_bb=>kernel_rfl)
  (case h_cd=>rfl)
  (case h_hd=>kernel_rfl)

