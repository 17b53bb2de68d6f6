import PyProof.Rows.All
import Wide.All
import OpenK.AllK
import Wide.FinOn
import Lean
import PyProof.EqAt
import PyProof.EqKinds
import PyProof.TupleCall
import KE.KRevIter
import KE.KDictOf
import PyProof.AttrMissHeap
import PyProof.StrWalks
import PyProof.StrBlockI
import PyProof.FString5
import PyProof.SetRoads
import PyProof.SetNew
import PyProof.TupleKey
import PyProof.InstEq
import PySem.SetOps
import KE.KTryMore
import PyProof.NsDelKeeps
import KE.KIsAll
import KE.KItemsList
import KE.KSortTup
import KE.KDictSum
import KE.KLam
import KE.KNestM
import PySem.Challenge.RW_satchelmeet_k92_whole_turned_in_time
open List renaming length_map → zA,mem_of_getElem? → zB,getElem?_eq_some_iff → zC,map_append → zE,length_append → zG,mem_cons → zH,mem_singleton → zJ,mem_map → zK,getElem?_eq_getElem → zO,mem_append_right → zQ,size_toArray → zR,getElem?_map → zS,length_cons → zU,length_take → zV,mem_append → zW,getElem?_append_left → zX,getElem?_append_right → zZ,map_cons → zc,mem_range → zh,pairwise_iff_getElem → zl,mem_cons_of_mem → zn,map_map → zo,length_singleton → zp,take_length → zq,nodup_cons → zw,getElem_mem → zx,append_nil → zy,mem_append_left → z4,getElem?_of_mem → z6,getElem?_cons_succ → z8,getElem?_cons_zero → yD,length_nil → yE,mem_cons_self → yF,eraseIdx_sublist → yG,map_congr_left → yH,eraseIdx_of_length_le → yI,length_range → yK,all_eq_true → yM,map_nil → yN,pairwise_map → yO,foldl_append → yP,set_cons_zero → yQ,set_cons_succ → yR,cons_append → yU,not_mem_nil → yW,getElem?_eq_none → yZ,nil_append → yc,pairwise_cons → yd,mem_flatMap → ye,length_reverse → yh,range_succ → yj,replicate_succ → yp,lookup_cons → yu,mem_filterMap → yw,countP_le_length → yy,append_assoc → xD,filterMap_cons → xI,flatMap_append → xJ,getElem_of_mem → xK,getElem?_range → xL,length_drop → xN,lookup → xO,find?_cons → xT,reverse_cons → xU,flatten_cons → xV,take_succ → xX,map_set → xf,map_reverse → xg,any_cons → xh,length_set → xj,sum_append → xl,map_id → xp
open Nat renaming le_refl → zD,lt_of_lt_of_le → zT,ne_of_lt → zY,zero_le → za,not_lt_zero → yB,le_trans → yC,lt_irrefl → yS,succ_mul → yV,ne_of_gt → yb,lt_succ_iff → yk,lt_succ_of_lt → yn,sub_self → xF,reduceAdd → xG,reduceSub → xH,le_succ → xP,lt_or_ge → xQ,le_of_lt → xY,lt_succ_self → xa,mul_comm → xb,zero_add → xc
open PySem.W renaming keepIn → zF,nsIn → zI,mg_of → zL,findIn → zu,mg_none_of → yA,kia_one → yT,emptyDict → yY,instObj → yo,isFn → yq,plainGet → xZ,fnOf → xm
open Bool renaming false_ne_true → zP,false_eq_true → zg,false_and → yx,eq_iff_iff → xB,and_false → xW
open Int renaming le_refl → zb,toNat_natCast → zk,eq_ofNat_of_zero_le → zm,toNat_of_nonneg → yi,emod_lt_of_pos → yl,emod_nonneg → xC,mul_zero → xo
open PySem.F renaming slot_list_append → zd,type_list_append → zf,plainAttrs_list → zj
open PyProof.Rows renaming boot_tuple → yJ,boot_isinstance → yL,boot_min → ya,callWith_type1 → yf,boot_list → yr,boot_max → yz
open PySem renaming mem_of_lookup → yX
open Option renaming map_some → xR
set_option Elab.async false
set_option linter.all false
set_option maxRecDepth 100000
set_option maxHeartbeats 4000000
set_option bootstrap.genMatcherCode false
noncomputable section
namespace L2
open PySem PySem.Spec PyProof.Rows
abbrev Key:=Sum Int Str
noncomputable def oq:Key->Value->Bool
 | .inl k,v=>Value.isInt k v
 | .inr x,v=>Value.isStrOf x v
def aaj (w:World):Key->Int
 | .inl k=>hashInt k
 | .inr x=>hashStr w x
theorem wd:∀ {k:Key}{v:Value},oq k v=true->(∃ i t,k=Sum.inl i/\v=Value.int i t)\/(∃ x t,k=Sum.inr x/\v=Value.str x t)
 | .inl i,v,h=>by
  obtain ⟨t,e⟩:=Value.isInt_shape (k:=i) (v:=v) h;exact .inl ⟨i,t,rfl,e⟩
 | .inr x,v,h=>by
  obtain ⟨t,e⟩:=Value.isStrOf_shape (x:=x) (v:=v) h;exact .inr ⟨x,t,rfl,e⟩
theorem Q6 (i:Int)(t:Tok):oq (.inl i) (.int i t)=true:=by simp [oq,Value.isInt]
theorem Q5 (x:Str)(t:Tok):oq (.inr x) (.str x t)=true:=by simp [oq,Value.isStrOf]
theorem Yj (a b:Int):decide ((Sum.inl a:Key)=Sum.inl b)=(a == b):=by
 by_cases e:a=b
 ·subst e;simp
 ·have h:¬ (Sum.inl a:Key)=Sum.inl b:=λq=>e (Sum.inl.inj q);rw [decide_eq_false h];exact (beq_eq_false_iff_ne.mpr e).symm
theorem Yg (a b:Str):decide ((Sum.inr a:Key)=Sum.inr b)=decide (a=b):=by
 by_cases e:a=b
 ·subst e;simp
 ·have h:¬ (Sum.inr a:Key)=Sum.inr b:=λq=>e (Sum.inr.inj q);rw [decide_eq_false h,decide_eq_false e]
theorem Yi (a:Int)(b:Str):decide ((Sum.inl a:Key)=Sum.inr b)=false:=decide_eq_false (λq=>nomatch q)
theorem Yh (a:Str)(b:Int):decide ((Sum.inr a:Key)=Sum.inl b)=false:=decide_eq_false (λq=>nomatch q)
noncomputable def aW (prog:Program)(w:World):PySem.KeyKind prog w Key where
 is:=oq
 hash:=aaj w
 inj:=λv a b ha hb=>by
  rcases wd ha with ⟨i,t,rfl,rfl⟩ | ⟨x,t,rfl,rfl⟩
  ·rcases wd hb with ⟨j,u,rfl,e⟩ | ⟨y,u,rfl,e⟩
   ·injection e with e1 _;rw [e1]
   ·exact nomatch e
  ·rcases wd hb with ⟨j,u,rfl,e⟩ | ⟨y,u,rfl,e⟩
   ·exact nomatch e
   ·injection e with e1 _;rw [e1]
 byValue:=λk v h=>by
  rcases wd h with ⟨i,t,rfl,rfl⟩ | ⟨x,t,rfl,rfl⟩ <;> rfl
 pyHash:=λhv h=>by
  rcases wd hv with ⟨i,t,rfl,rfl⟩ | ⟨x,t,rfl,rfl⟩
  ·exact wpAny_pyHash_int h
  ·exact wpAny_pyHash_str h
 eqBool:=λhu hv h=>by
  rcases wd hu with ⟨i,t,rfl,rfl⟩ | ⟨x,t,rfl,rfl⟩
  ·rcases wd hv with ⟨j,u,rfl,rfl⟩ | ⟨y,u,rfl,rfl⟩
   ·rw [Yj] at h;exact wpAny_eqBool_int h
   ·rw [Yi] at h;exact SeqAt.EqAt.int_str i t y u _ _ _ _ h
  ·rcases wd hv with ⟨j,u,rfl,rfl⟩ | ⟨y,u,rfl,rfl⟩
   ·rw [Yh] at h;exact SeqAt.EqAt.str_int x t j u _ _ _ _ h
   ·rw [Yg] at h;exact wpAny_eqBool_str h
 «strs»:=λk x t v h=>by
  rcases wd h with ⟨i,u,rfl,e⟩ | ⟨y,u,rfl,e⟩
  ·exact nomatch e
  ·injection e with e1 _
   subst e1;cases v <;> rfl
theorem vY (prog:Program)(w:World)(i:Int)(t:Tok):(aW prog w).is (.inl i) (.int i t)=true:=Q6 i t
theorem vX (prog:Program)(w:World)(x:Str)(t:Tok):(aW prog w).is (.inr x) (.str x t)=true:=Q5 x t
inductive V where
 | bL | bl (b:Bool) | int (i:Int) | str (x:Str) | Rz (b:Array UInt8) | WX (b:UInt64) | ref (a:Addr) | ty (n:String)
 deriving DecidableEq
noncomputable def RelV:V->Value->Prop
 | .bL,u=>u=Value.none
 | .bl b,u=>u=Value.bool b
 | .int i,u=>∃ t,u=Value.int i t
 | .str x,u=>∃ t,u=Value.str x t
 | .Rz b,u=>∃ t,u=Value.bytes b t
 | .WX b,u=>∃ t,u=Value.float b t
 | .ref a,u=>u=Value.ref a
 | .ty n,u=>u=Value.type n
abbrev Vals:List V->List Value->Prop:=Paired RelV
theorem Vals.length {xs:List V}{us:List Value}(r:Vals xs us):xs.length=us.length:=Paired.length r
theorem Vals.get:∀ {xs:List V}{us:List Value}{i:Nat}{x:V},Vals xs us->xs[i]?=some x->∃ u,us[i]?=some u/\RelV x u
 | _,_,_,_,.nil,e=>by simp at e
 | _,_,0,_,.cons r _,e=>by simp at e;subst e;exact ⟨_,rfl,r⟩
 | _,_,i + 1,x,.cons _ t,e=>by
  obtain ⟨u,h1,h2⟩:=Vals.get (i:=i) (x:=x) t (by simpa using e);exact ⟨u,by simpa using h1,h2⟩
theorem Vals.set {x:V}{u:Value}(r:RelV x u):∀ {xs:List V}{us:List Value} (i:Nat),Vals xs us->Vals (xs.set i x) (us.set i u)
 | _,_,_,.nil=>.nil
 | _,_,0,.cons _ t=>.cons r t
 | _,_,i + 1,.cons q t=>.cons q (Vals.set r i t)
theorem Vals.append:∀ {xs ys:List V}{us ws:List Value},Vals xs us->Vals ys ws->Vals (xs++ys) (us++ws)
 | _,_,_,_,.nil,s=>s
 | _,_,_,_,.cons r t,s=>.cons r (Vals.append t s)
theorem Vals.take:∀ {xs:List V}{us:List Value} (n:Nat),Vals xs us->Vals (xs.take n) (us.take n)
 | _,_,0,_=>.nil
 | _,_,_ + 1,.nil=>.nil
 | _,_,n + 1,.cons r t=>.cons r (Vals.take n t)
theorem Vals.drop:∀ {xs:List V}{us:List Value} (n:Nat),Vals xs us->Vals (xs.drop n) (us.drop n)
 | _,_,0,r=>r
 | _,_,_ + 1,.nil=>.nil
 | _,_,n + 1,.cons _ t=>Vals.drop n t
noncomputable def iJ:Option V->Option Value->Prop
 | some v,some u=>RelV v u
 | none,none=>True
 | _,_=>False
noncomputable def KV {κ:Type}:List (κ×V)->List (κ×Value)->Prop:=Paired λ(p:κ×V) (q:κ×Value)=>p.1=q.1/\RelV p.2 q.2
def kV:Key->V
 | .inl i=>.int i
 | .inr x=>.str x
inductive HO where
  | lst (xs:List V)
  | tup (xs:List V)
  | dK (aN:List (Key×V)) | dT (aN:List (List Key×V))
  | set (S:Int->Bool) (n:Nat)
  | ins (C dx:Addr) (fs:List (Str×V))
  | own (x:Addr)
  | xd (fs:List (Str×V))
  | met (f x:Addr)
  | rng (lo hi:Int)
  | uF (o:Obj) (u:HO)
  | lG (ps:Array Value)
  | ext (φ:Heap->Prop)
abbrev Hp:=Addr->Option HO
def upd (H:Hp)(a:Addr)(o:HO):Hp:=λb=>if b=a then some o else H b
theorem xq {H:Hp}{a:Addr}{o:HO}:upd H a o a=some o:=by unfold upd;rw [if_pos rfl]
theorem wF {H:Hp}{a b:Addr}{o:HO}(h:b≠a):upd H a o b=H b:=by unfold upd;rw [if_neg h]
theorem cZ {H:Hp}{a b:Addr}{o u:HO}(h:H a=some o)(h':H b=some u)(d:o≠u):a≠b:=by intro e;subst e;rw [h] at h';exact d (Option.some.inj h')
theorem wC {H:Hp}{a b:Addr}{o:HO}(h:H a=some o)(h':H b=none):a≠b:=by intro e;subst e;rw [h] at h';cases h'
theorem vS {h:Heap}{o:Obj}(hf:o.isFreed=false:=by rfl)(hd:o.dict=none:=by rfl):∀ ob,(h.push o).get? h.objs.size=some ob->ob.dict=none:=λob e=>by
 rw [Heap.get?_push_size h hf] at e;cases e;exact hd
section
variable (P:Program) (w:World)
noncomputable def bJ (H:Hp)(h:Heap)(a:Addr):HO->Prop
 | .lst xs=>xs.length<=sizeLine/\∃ (aH:List Value) (n:Nat),Vals xs aH/\h.get? a=some { cls:=.type "list", data:=.seq aH.toArray n }
 | .tup xs=>(xs.length<=sizeLine/\∀ ob,h.get? a=some ob->ob.dict=none)/\∃ aH:List Value,Vals xs aH/\IsTup h a aH.toArray
 | .dK aN=>aN.length<=sizeLine/\(a == sysModules)=false/\∃ vs,KV aN vs/\h.DictOf (aW P w) a vs
 | .dT aN=>aN.length<=sizeLine/\(a == sysModules)=false/\∃ xs:List (List Key×Addr×Value),
   Paired (λ(p:List Key×V) (q:List Key×Addr×Value)=>p.1=q.1/\H q.2.1=some (.tup (p.1.map kV))/\RelV p.2 q.2.2) aN xs /\
   ∃ o es ep,h.get? a=some o/\o.ExactDict/\o.data=.dict es ep/\es.toList=xs.map (entryOfKey (tupleKind (aW P w)))/\(xs.map (·.1)).Nodup
 | .set S n=>h.SetOf (intKind P w) a S n
 | .ins C dx fs=>H dx=some (.own a)/\fs.length<=1000/\dx≠a/\h.get? a=some (yo C dx) /\
   ∃ mA,h.Ns1 dx mA/\(∀ f,iJ (fs.lookup f) (mA f))/\PySem.Within mA (fs.map (·.1))
 | .own _=>∃ o,h.get? a=some o
 | .xd fs=>∃ mA,h.Ns1 a mA/\∀ f,iJ (fs.lookup f) (mA f)
 | .rng lo hi=>∃ t u v,h.get? a=some { cls:=.type "range", data:=.fields #[.int lo t,.int hi u,.int 1 v] }
 | .uF o u=>h.get? a=some o/\bJ H h a u
 | .lG ps=>h.get? a=some { cls:=.none,data:=.fields ps }
 | .met f x=>h.get? a=some (PySem.W.methodObj (.ref f) (.ref x))
 | .ext φ=>φ h/\(∃ o,h.get? a=some o)/\∀ h1 h2:Heap,φ h1->(∀ o,h1.get? a=some o->h2.get? a=some o)->φ h2
def ic (H:Hp)(h:Heap):Prop:=∀ a o,H a=some o->bJ P w H h a o
end
section
variable {P:Program}{w:World}{H H':Hp}{h h':Heap}{a:Addr}{o:HO}
theorem bJ.lt (x:bJ P w H h a o):a < h.objs.size:=by
 cases o with
 | lst xs=>obtain ⟨_,_,_,_,e⟩:=x;exact Heap.lt_size e
 | tup xs=>obtain ⟨_,_,_,p⟩:=x;exact p.lt
 | dK aN=>obtain ⟨_,_,_,_,o,_,_,e,_⟩:=x;exact Heap.lt_size e
 | dT aN=>obtain ⟨_,_,_,_,o,_,_,e,_⟩:=x;exact Heap.lt_size e
 | set S n=>obtain ⟨o,_,_,_,e,_⟩:=x;exact Heap.lt_size e
 | ins C dx fs=>obtain ⟨_,_,_,e,_⟩:=x;exact Heap.lt_size e
 | own y=>obtain ⟨_,e⟩:=x;exact Heap.lt_size e
 | xd fs=>obtain ⟨_,⟨_,_,_,e,_⟩,_⟩:=x;exact Heap.lt_size e
 | rng lo hi=>obtain ⟨_,_,_,e⟩:=x;exact Heap.lt_size e
 | uF ob u=>obtain ⟨e,_⟩:=x;exact Heap.lt_size e
 | lG ps=>exact Heap.lt_size (show h.get? a=some _ from x)
 | met f y=>exact Heap.lt_size (show h.get? a=some _ from x)
 | ext φ=>obtain ⟨_,⟨_,e⟩,_⟩:=x;exact Heap.lt_size e
theorem Paired.X8 {α β:Type}{F G:α->β->Prop}:∀ {aae:List α}{aad:List β},Paired F aae aad->(∀ a b,F a b->G a b)->Paired G aae aad
 | _,_,.nil,_=>.nil
 | _,_,.cons r t,f=>.cons (f _ _ r) (Paired.X8 t f)
theorem bJ.dX (x:bJ P w H h a o)(k:∀ b u,(b=a\/H b=some (.own a))->h.get? b=some u->h'.get? b=some u)
  (ho:∀ b,H b=some (.own a)->H' b=some (.own a)) (ht:∀ b xs,H b=some (.tup xs)->H' b=some (.tup xs)):bJ P w H' h' a o:=by
 induction o with
 | lst xs=>obtain ⟨z,aH,n,r,e⟩:=x;exact ⟨z,aH,n,r,k _ _ (.inl rfl) e⟩
 | tup xs=>obtain ⟨z,aH,r,ob,e,c⟩:=x;exact ⟨⟨z.1,λob' e'=>by rw [k _ _ (.inl rfl) e] at e';cases e';exact z.2 _ e⟩,aH,r,ob,k _ _ (.inl rfl) e,c⟩
 | dK aN=>obtain ⟨z,y,vs,r,ob,es,ep,e,c⟩:=x;exact ⟨z,y,vs,r,ob,es,ep,k _ _ (.inl rfl) e,c⟩
 | dT aN=>
  obtain ⟨z,y,xs,r,ob,es,ep,e,c⟩:=x;exact ⟨z,y,xs,Paired.X8 r λp q z=>⟨z.1,ht _ _ z.2.1,z.2.2⟩,ob,es,ep,k _ _ (.inl rfl) e,c⟩
 | set S n=>obtain ⟨ob,es,ep,t,e,c⟩:=x;exact ⟨ob,es,ep,t,k _ _ (.inl rfl) e,c⟩
 | ins C dx fs=>
  obtain ⟨d,z,ne,e,mA,⟨od,es,ep,e2,c⟩,r⟩:=x;exact ⟨ho _ d,z,ne,k _ _ (.inl rfl) e,mA,⟨od,es,ep,k _ _ (.inr d) e2,c⟩,r⟩
 | own y=>obtain ⟨ob,e⟩:=x;exact ⟨ob,k _ _ (.inl rfl) e⟩
 | xd fs=>obtain ⟨mA,⟨od,es,ep,e,c⟩,r⟩:=x;exact ⟨mA,⟨od,es,ep,k _ _ (.inl rfl) e,c⟩,r⟩
 | rng lo hi=>obtain ⟨t,u,v,e⟩:=x;exact ⟨t,u,v,k _ _ (.inl rfl) e⟩
 | uF ob u ih=>obtain ⟨e,q⟩:=x;exact ⟨k _ _ (.inl rfl) e,ih q⟩
 | lG ps=>
  have e:h.get? a=some { cls:=.none,data:=.fields ps }:=x;show h'.get? a=some { cls:=.none,data:=.fields ps };exact k a _ (.inl rfl) e
 | met f y=>
  have e:h.get? a=some (PySem.W.methodObj (.ref f) (.ref y)):=x;show h'.get? a=some (PySem.W.methodObj (.ref f) (.ref y));exact k a _ (.inl rfl) e
 | ext φ=>obtain ⟨p,⟨o,e⟩,st⟩:=x;exact ⟨st _ _ p λo q=>k _ _ (.inl rfl) q,⟨o,k _ _ (.inl rfl) e⟩,st⟩
theorem ic.lt (x:ic P w H h)(e:H a=some o):a < h.objs.size:=(x a o e).lt
theorem ic.fresh (x:ic P w H h)(e:h.objs.size<=a):H a=none:=by
 cases q:H a with
 | none=>rfl
 | some u=>exact absurd (zT (x.lt q) e) (yS _)
theorem ic.kept (x:ic P w H h)(k:∀ b u,h.get? b=some u->h'.get? b=some u):ic P w H h':=λa o e=>
 (x a o e).dX (λb u _ q=>k b u q) (λ_ q=>q) λ_ _ q=>q
theorem ic.laid (x:ic P w H h)(k:∀ b u,h.get? b=some u->h'.get? b=some u)(hp:h.objs.size<=a)(new:bJ P w (upd H a o) h' a o):ic P w (upd H a o) h':=λb u e=>by
 have hn:=x.fresh hp;by_cases hb:b=a
 ·subst hb;rw [xq] at e;cases e;exact new
 ·rw [wF hb] at e;exact (x b u e).dX (λc v _ q=>k c v q) (λc q=>by rw [wF (wC q hn)];exact q) λc xs q=>by rw [wF (wC q hn)];exact q
end
def Rd (H:Hp)(a:Addr)(u:HO):Prop:=H a=some u\/∃ o,H a=some (.uF o u)
theorem Rd.ok {P:Program}{w:World}{H:Hp}{h:Heap}{a:Addr}{u:HO}(r:Rd H a u)(x:ic P w H h):bJ P w H h a u:=by
 rcases r with r | ⟨o,r⟩
 ·exact x a u r
 ·obtain ⟨_,q⟩:=x a _ r;exact q
noncomputable def Mut:Option HO->Prop
 | some (.lst _)=>True
 | some (.dK _)=>True
 | some (.dT _)=>True
 | some (.set _ _)=>True
 | some (.ins _ _ _)=>True
 | some (.ext _)=>True
 | _=>False
section
variable {P:Program}{w:World}{H:Hp}{h h':Heap}{x e:Addr}{o':HO}
theorem ic.write (ok:ic P w H h)(mu:Mut (H x))(he:e=x\/H e=some (.own x))(k:∀ b u,b≠e->h.get? b=some u->h'.get? b=some u)(Zl:∃ u,h'.get? e=some u)
  (new:bJ P w (upd H x o') h' x o'):ic P w (upd H x o') h':=λb u q=>by
 have Z9:∀ c y,H c=some (.own y)->c≠x:=λc y r z=>by subst z;rw [r] at mu;exact mu
 have acE:∀ c xs,H c=some (.tup xs)->c≠x:=λc xs r z=>by subst z;rw [r] at mu;exact mu
 by_cases hb:b=x
 ·subst hb;rw [xq] at q;cases q;exact new
 ·rw [wF hb] at q;by_cases YD:b=e
  ·have q':H b=some (.own x):=by
    rcases he with z | z
    ·exact absurd (YD.trans z) hb
    ·rw [YD];exact z
   rw [q] at q';cases q';obtain ⟨v,hv⟩:=Zl;exact ⟨v,by rw [YD];exact hv⟩
  ·refine (ok b u q).dX (λc v hc r=>k c v ?_ r) (λc r=>by rw [wF (Z9 c b r)];exact r) λc xs r=>by rw [wF (acE c xs r)];exact r
   rcases hc with rfl | hc
   ·exact YD
   ·rintro rfl;rcases he with z | z
    ·exact Z9 c b hc z
    ·rw [hc] at z;cases z;exact hb rfl
end
structure Un (fs ex:List Addr) (H H':Hp) (h h':Heap):Prop where
 keep:∀ b o,h.get? b=some o->H b=none->b ∉ fs->b ∉ ex->h'.get? b=some o
 slot:∀ b o,h.get? b=some o->H b=none->b∈fs->b ∉ ex->∃ sl,h'.get? b=some { o with slots:=sl }
 free:∀ b o,h.get? b=some o->H b=none->b ∉ ex->H' b=none
 there:∀ b o,h.get? b=some o->b ∉ ex->∃ o',h'.get? b=some o'
 br:∀ b xs,H b=some (.tup xs)->H' b=some (.tup xs)
 oR:∀ b o u,H b=some (.uF o u)->H' b=some (.uF o u)
 nu:∀ b ps,H b=some (.lG ps)->∃ more,H' b=some (.lG (ps++more))
section
variable {fs Zp ex ex':List Addr} {H H1 H2:Hp} {h h1 h2 h':Heap}{a x e:Addr}{o:HO}
theorem Un.any (u:Un fs ex H H1 h h1){b:Addr}{ob:Obj}(q:h.get? b=some ob)(n:H b=none)(hx:b ∉ ex):∃ sl,h1.get? b=some { ob with slots:=sl }:=by
 by_cases hb:b∈fs
 ·exact u.slot b ob q n hb hx
 ·exact ⟨ob.slots,u.keep b ob q n hb hx⟩
theorem Un.kept (k:∀ b u,h.get? b=some u->h'.get? b=some u):Un fs ex H H h h':=
 ⟨λb ob q _ _ _=>k b ob q,λb ob q _ _ _=>⟨ob.slots,k b ob q⟩,λ_ _ _ n _=>n,λb ob q _=>⟨ob,k b ob q⟩,λ_ _ q=>q,λ_ _ _ q=>q,λ_ ps q=>⟨#[],by rw [q];simp⟩⟩
theorem Un.refl:Un fs ex H H h h:=Un.kept λ_ _ q=>q
theorem Un.laid (k:∀ b u,h.get? b=some u->h'.get? b=some u)(hp:h.objs.size<=a)(hn:H a=none):Un fs ex H (upd H a o) h h' where
 keep:=λb u q _ _ _=>k b u q
 slot:=λb u q _ _ _=>⟨u.slots,k b u q⟩
 free:=λb u q n _=>by rw [wF (zY (zT (Heap.lt_size q) hp))];exact n
 there:=λb u q _=>⟨u,k b u q⟩
 br:=λb xs q=>by rw [wF (wC q hn)];exact q
 oR:=λb u xs q=>by rw [wF (wC q hn)];exact q
 nu:=λb ps q=>⟨#[],by rw [wF (wC q hn),q];simp⟩
theorem Un.write (mu:Mut (H x))(he:e=x\/H e=some (.own x))(k:∀ b u,b≠e->h.get? b=some u->h'.get? b=some u)(Zl:∃ u,h'.get? e=some u):Un fs ex H (upd H x o) h h':=by
 have hx:∀ b,H b=none->b≠x:=λb n z=>by subst z;rw [n] at mu;exact mu
 have hb:∀ b,H b=none->b≠e:=λb n z=>by
  subst z;rcases he with r | r
  ·exact hx b n r
  ·rw [n] at r;cases r
 have hm:∀ b u,H b=some u->¬ Mut (some u)->b≠x:=λb u q nm z=>by subst z;rw [q] at mu;exact nm mu
 refine ⟨λb u q n _ _=>k b u (hb b n) q,λb u q n _ _=>⟨u.slots,k b u (hb b n) q⟩,λb u q n _=>by rw [wF (hx b n)];exact n,λb u q _=>?_,
  λb xs q=>by rw [wF (hm b _ q λz=>z)];exact q,λb u xs q=>by rw [wF (hm b _ q λz=>z)];exact q,λb ps q=>⟨#[],by rw [wF (hm b _ q λz=>z),q];simp⟩⟩
 by_cases YD:b=e
 ·subst YD;exact Zl
 ·exact ⟨u,k b u YD q⟩
end
noncomputable def trk (h:Heap)(H:Hp):List Addr:=(List.range h.objs.size).filter λa=>(H a).isSome
def rq (h:Heap)(H:Hp):Heap:=PySem.W.hideAll h (trk h H)
theorem Rf (h:Heap)(H:Hp):(rq h H).objs.size=h.objs.size:=PySem.W.hideAll_size _ _
theorem TR {h:Heap}{H:Hp}{b:Addr}{o:Obj}(e:h.get? b=some o)(n:H b=none):(rq h H).get? b=some o:=
 PySem.W.hideAll_get _ e λhm=>by
  have q:(H b).isSome=true:=(List.mem_filter.mp hm).2;rw [n] at q;simp at q
theorem VF {h:Heap}{H:Hp}{b:Addr}{o:Obj}(e:(rq h H).get? b=some o):h.get? b=some o/\H b=none:=by
 have e':h.get? b=some o:=PySem.W.of_hideAll (trk h H) e;refine ⟨e',?_⟩;cases q:H b with
 | none=>rfl
 | some x=>
  have hm:b∈trk h H:=List.mem_filter.mpr ⟨zh.mpr (Heap.lt_size e'),by simp [q]⟩;have z:(rq h H).get? b=none:=PySem.W.hideAll_none (trk h H) hm;rw [z] at e;cases e
noncomputable def gc (g h:Heap)(L:Addr):List (Addr×Obj):=(List.range h.objs.size).filterMap λa=>if a=L\/(g.get? a).isSome=true then none else (h.get? a).map λo=>(a,o)
theorem ee {g h:Heap}{L a:Addr}{o:Obj}(h1:a≠L)(h2:g.get? a=none)(h3:h.get? a=some o):(a,o)∈gc g h L:=
 yw.mpr ⟨a,zh.mpr (Heap.lt_size h3),by simp [h1,h2,h3]⟩
theorem nY {g h:Heap}{L:Addr}{p:Addr×Obj}(hp:p∈gc g h L):p.1≠L/\g.get? p.1=none/\h.get? p.1=some p.2:=by
 obtain ⟨b,_,e⟩:=yw.mp hp;split at e
 ·cases e
 ·rename_i hn;cases q:h.get? b with
  | none=>rw [q] at e;simp at e
  | some u=>
   rw [q] at e;simp only [xR,Option.some.injEq] at e;subst e;refine ⟨λz=>hn (.inl z),?_,q⟩;show g.get? b=none;cases r:g.get? b with
   | none=>rfl
   | some v=>exact (hn (.inr (by simp [r]))).elim
noncomputable def rest (g h:Heap)(L d:Addr):List (Addr×Obj):=(gc g h L).filter λp=>decide (p.1≠d)
theorem vR {g h:Heap}{L:Addr}:News g L h (gc g h L):=λp hp=>let ⟨a,b,c⟩:=nY hp;⟨c,a,b⟩
structure Mod (K:PySem.W.Frag) (mg:Str->Option Value) (base:Heap):Prop where
 kin:K.In base
 glob:base.Ns mainGlobals mg
 blt:∃ mb,base.Ns builtinsNs mb/\∀ x:Str,x ≠ "__name__" -> mb x=bootBuiltins x
 nolimit:base.NoLimit
structure Cx where
 prog:Program
 w:World
 K:PySem.W.Frag
 mg:Str->Option Value
 base:Heap
 A:Around
 N:List Str
 dh:Shared
 Us:Hp
 env:Env
 outer:List Env
 stack:List Env
 ex:List Addr
 fn:Str->Bool
 calm:Bool
 pn:List (Addr×Obj)
 xe:Value->Shared->Prop
def RP (l:List Env):List Addr:=l.filterMap (·.frame)
abbrev Cx.fs (X:Cx):List Addr:=RP X.outer
noncomputable def Vis (sc:Scope)(x:Str):Prop:=sc.names.lookup x=some .local\/sc.names.lookup x=some .cell\/sc.names.lookup x=some .free
noncomputable def Loc (sc:Scope)(x:Str):Prop:=sc.names.lookup x=some .local\/sc.names.lookup x=some .cell
noncomputable def Look (env:Env)(h:Heap)(m:Str->Option Value)(x:Str)(u:Value):Prop:=
 (env.kindOf x=some .local/\m x=some u)\/((env.kindOf x=some .cell\/env.kindOf x=some .free)/\∃ c,env.cells.lookup x=some c/\h.IsCell c (some u))
structure Cx.Ok (X:Cx):Prop where
 mod:Mod X.K X.mg X.base
 kind:X.env.scope.kind=.function
 glob:X.env.globals=mainGlobals
 blt:X.env.builtins=builtinsNs
 above:X.dh.heap.objs.size<=X.env.locals
 inj:∀ x y c,X.env.cells.lookup x=some c->X.env.cells.lookup y=some c->x=y
 has:∀ x,(X.env.kindOf x=some .cell\/X.env.kindOf x=some .free)->∃ c,X.env.cells.lookup x=some c
 cab:∀ x c,X.fn x=true->X.env.cells.lookup x=some c->X.dh.heap.objs.size<=c
 hd:X.calm=true->X.A.handled=none
 frames:X.A.frames=some X.stack
 stk:X.stack=X.outer\/(X.stack=X.env::X.outer/\X.env.frame=some X.env.locals)
 exf:∀ b∈X.ex,b≠X.env.locals/\∀ x c,X.env.cells.lookup x=some c->c≠b
 bs:∀ b o,X.base.get? b=some o->X.dh.heap.get? b=some o/\X.Us b=none
 Ui:X.base.objs.size<=X.dh.heap.objs.size
 S5:∀ b o,X.base.get? b=some o->b ∉ X.ex
 Wf:∀ b∈X.ex,b ∉ X.fs
 jO:X.dh.heap.FunFrames X.base X.outer
 WV:∀ b∈X.fs,X.Us b=none
structure Inv (X:Cx) (af:List (Addr×Obj)) (σ:List (Option V)) (H:Hp) (s:Shared):Prop where
 ok:X.Ok
 os:s.os=X.dh.os
 bare:AllBare s.gens
 base:Un X.fs X.ex X.Us H X.dh.heap s.heap
 loc:∃ m,s.heap.Ns X.env.locals m/\∀ (i:Nat) (x:Str) (v:V),X.N[i]?=some x->σ[i]?=some (some v)->Vis X.env.scope x->∃ u,RelV v u/\Look X.env s.heap m x u
 cell:∀ x c,X.env.cells.lookup x=some c->∃ v,s.heap.IsCell c v
 free:H X.env.locals=none
 iU:∀ x c,X.env.cells.lookup x=some c->H c=none
 pin:∀ p∈X.pn++af,s.heap.get? p.1=some p.2/\H p.1=none/\p.1≠X.env.locals/\p.1 ∉ X.fs/\∀ v,p.2.data≠.cell v
 bF:ic X.prog X.w H s.heap
 len:σ.length=X.N.length
section
variable {X:Cx}{af:List (Addr×Obj)}{σ:List (Option V)}{H H':Hp}{s:Shared}{h':Heap}
theorem Cx.Ok.acF (ok:X.Ok){b:Addr}{o:Obj}(e:X.base.get? b=some o):b ∉ X.fs:=λhb=>by
 have:=(ok.jO.mem hb).1;rw [e] at this;cases this
theorem Inv.bs (I:Inv X af σ H s):∀ b o,X.base.get? b=some o->s.heap.get? b=some o/\H b=none:=λb o e=>
 ⟨I.base.keep b o (I.ok.bs b o e).1 (I.ok.bs b o e).2 (I.ok.acF e) (I.ok.S5 b o e),I.base.free b o (I.ok.bs b o e).1 (I.ok.bs b o e).2 (I.ok.S5 b o e)⟩
theorem Inv.bk (I:Inv X af σ H s):∀ b o,X.base.get? b=some o->s.heap.get? b=some o:=λb o e=>(I.bs b o e).1
theorem Inv.mod (I:Inv X af σ H s):Mod X.K X.mg X.base:=I.ok.mod
theorem Inv.mj (I:Inv X af σ H s):X.K.In s.heap:=I.ok.mod.kin.keeps I.bk
theorem Inv.fr (I:Inv X af σ H s):∃ m,Fr X.base X.env.locals s.heap m:=
 let ⟨m,hn,_⟩:=I.loc
 ⟨m,hn,I.bk,yC I.ok.Ui I.ok.above⟩
theorem Inv.lt (I:Inv X af σ H s):X.env.locals < s.heap.objs.size:=let ⟨_,hn,_⟩:=I.loc;hn.lt
theorem Inv.sz (I:Inv X af σ H s):X.dh.heap.objs.size<=s.heap.objs.size:=yC I.ok.above (xY I.lt)
theorem Inv.aaa (I:Inv X af σ H s){a:Addr}(h:s.heap.objs.size<=a):a ∉ X.fs:=λhb=>by
 obtain ⟨_,o,ho,_⟩:=I.ok.jO.mem hb;exact absurd (zT (Heap.lt_size ho) (yC I.sz h)) (yS _)
theorem Inv.YU (I:Inv X af σ H s):∀ x c,X.env.cells.lookup x=some c->c≠X.env.locals:=λx c e z=>by
 obtain ⟨v,o,ho,hd⟩:=I.cell x c e;obtain ⟨m,⟨o',es,ep,rj,Rg,_⟩,_⟩:=I.loc;rw [z,rj] at ho;cases ho;rw [Rg] at hd;cases hd
theorem Inv.jO (I:Inv X af σ H s):s.heap.FunFrames X.base X.outer:=by
 have all:∀ (l:List Env),(∀ b∈RP l,b∈X.fs)->X.dh.heap.FunFrames X.base l->s.heap.FunFrames X.base l:=by
  intro l;induction l with
  | nil=>intro _ _;trivial
  | cons env r ih=>
   intro hs hl;obtain ⟨hk,⟨L,o,hf,hn,ho,hd⟩,hr⟩:=hl;have hL:L∈X.fs:=hs L (by unfold RP;rw [xI,hf];exact yF);obtain ⟨sl,e⟩:=I.base.slot L o ho (I.ok.WV L hL) hL λz=>I.ok.Wf L z hL;exact ⟨hk,⟨L,_,hf,hn,e,hd⟩,ih (λb hb=>hs b (by unfold RP;rw [xI,hf];exact zn _ hb)) hr⟩
 exact all X.outer (λ_ hb=>hb) I.ok.jO
theorem Inv.stack (I:Inv X af σ H s):s.heap.FunFrames X.base X.stack:=by
 rcases I.ok.stk with e | ⟨e,hf⟩
 ·rw [e];exact I.jO
 ·rw [e];obtain ⟨m,hn,_⟩:=I.loc;refine .cons (by rw [I.ok.kind];decide) hf hn ?_ I.jO;exact Heap.get?_none_of_le (yC I.ok.Ui I.ok.above)
theorem Inv.kE (I:Inv X af σ H s):∀ b∈RP X.stack,b∈X.env.locals::X.fs:=λb hb=>by
 rcases I.ok.stk with e | ⟨e,hf⟩
 ·rw [e] at hb;exact zn _ hb
 ·rw [e] at hb;unfold RP at hb;rw [xI,hf] at hb;exact hb
theorem Inv.Pj (I:Inv X af σ H s):∀ b∈RP X.stack,H b=none:=λb hb=>by
 rcases zH.mp (I.kE b hb) with e | hb
 ·rw [e];exact I.free
 ·obtain ⟨_,o,ho,_⟩:=I.ok.jO.mem hb;exact I.base.free b o ho (I.ok.WV b hb) λz=>I.ok.Wf b z hb
theorem Inv.step {g':Array GenState}{t':Nat}{d':Drawn}{ch:List Addr}(I:Inv X af σ H s)
  (UE:∀ b∈ch,(b∈X.ex\/X.dh.heap.objs.size<=b)/\b≠X.env.locals/\(∀ x c,X.env.cells.lookup x=some c->c≠b)/\∀ p∈X.pn++af,p.1≠b)
  (keep:∀ b o,b≠X.env.locals->b ∉ X.fs->b ∉ ch->s.heap.get? b=some o->H b=none->h'.get? b=some o)
  (slot:∀ b o,b≠X.env.locals->b∈X.fs->b ∉ ch->s.heap.get? b=some o->H b=none->∃ sl,h'.get? b=some { o with slots:=sl }) (free:∀ b o,b ∉ ch->s.heap.get? b=some o->H b=none->H' b=none)
  (there:∀ b o,b ∉ ch->s.heap.get? b=some o->∃ o',h'.get? b=some o')
  (br:∀ b xs,H b=some (.tup xs)->H' b=some (.tup xs)) (oR:∀ b o u,H b=some (.uF o u)->H' b=some (.uF o u)) (nu:∀ b ps,H b=some (.lG ps)->∃ more,H' b=some (.lG (ps++more)))
  (ns:∀ m,s.heap.Ns X.env.locals m->h'.Ns X.env.locals m) (bF:ic X.prog X.w H' h') (hg:AllBare g') :
  Inv X af σ H' { s with heap:=h',gens:=g',drawn:=d',toks:=t' }:=by
 have neL:∀ b o,X.dh.heap.get? b=some o->b≠X.env.locals:=λb o e=>zY (zT (Heap.lt_size e) I.ok.above);have S8:∀ b o,X.dh.heap.get? b=some o->b ∉ X.ex->b ∉ ch:=λb o e hx hb=>by
  rcases (UE b hb).1 with z | z
  ·exact hx z
  ·exact absurd (zT (Heap.lt_size e) z) (yS _)
 have cellK:∀ x c,X.env.cells.lookup x=some c->∀ v,s.heap.IsCell c v->h'.IsCell c v:=λx c e v ⟨o,ho,hd⟩=>by
  have uq:c ∉ ch:=λz=>(UE c z).2.2.1 x c e rfl;by_cases hc:c∈X.fs
  ·obtain ⟨sl,q⟩:=slot c o (I.YU x c e) hc uq ho (I.iU x c e);exact ⟨_,q,hd⟩
  ·exact ⟨o,keep c o (I.YU x c e) hc uq ho (I.iU x c e),hd⟩
 refine ⟨I.ok,I.os,hg,⟨λb o e n hb hx=>?_,λb o e n hb hx=>?_,λb o e n hx=>?_,λb o e hx=>?_,λb xs e=>br b xs (I.base.br b xs e),λb o xs e=>oR b o xs (I.base.oR b o xs e),λb ps e=>?_⟩,?_,λx c e=>?_,?_,λx c e=>?_,λp hp=>?_,bF,I.len⟩
 ·exact keep b o (neL b o e) hb (S8 b o e hx) (I.base.keep b o e n hb hx) (I.base.free b o e n hx)
 ·obtain ⟨sl,e1⟩:=I.base.slot b o e n hb hx;obtain ⟨sl',e2⟩:=slot b _ (neL b o e) hb (S8 b o e hx) e1 (I.base.free b o e n hx);exact ⟨sl',e2⟩
 ·obtain ⟨o',e1⟩:=I.base.there b o e hx;exact free b o' (S8 b o e hx) e1 (I.base.free b o e n hx)
 ·obtain ⟨o',e1⟩:=I.base.there b o e hx;exact there b o' (S8 b o e hx) e1
 ·obtain ⟨m1,e1⟩:=I.base.nu b ps e;obtain ⟨m2,e2⟩:=nu b _ e1;exact ⟨m1++m2,by rw [e2,Array.append_assoc]⟩
 ·obtain ⟨m,hn,hl⟩:=I.loc;refine ⟨m,ns m hn,λi x v e1 e2 e3=>?_⟩;obtain ⟨u,r,l⟩:=hl i x v e1 e2 e3;refine ⟨u,r,?_⟩;rcases l with l | ⟨k,c,e,z⟩
  ·exact .inl l
  ·exact .inr ⟨k,c,e,cellK x c e _ z⟩
 ·obtain ⟨v,z⟩:=I.cell x c e;exact ⟨v,cellK x c e v z⟩
 ·obtain ⟨m,⟨o,_,_,ho,_⟩,_⟩:=I.loc;exact free _ o (λz=>(UE _ z).2.1 rfl) ho I.free
 ·obtain ⟨v,o,ho,hd⟩:=I.cell x c e;exact free c o (λz=>(UE c z).2.2.1 x c e rfl) ho (I.iU x c e)
 ·obtain ⟨e,n,ne,nf,d⟩:=I.pin p hp;have uq:p.1 ∉ ch:=λz=>(UE p.1 z).2.2.2 p hp rfl;exact ⟨keep p.1 p.2 ne nf uq e n,free p.1 p.2 uq e n,ne,nf,d⟩
theorem Inv.un {t':Nat}(I:Inv X af σ H s)(u:Un X.fs [] H H' s.heap h')(bF:ic X.prog X.w H' h'):Inv X af σ H' { s with heap:=h',toks:=t' }:=by
 obtain ⟨m,⟨o,es,ep,ho,r⟩,_⟩:=id I.loc;obtain ⟨sl,hL⟩:=u.any ho I.free (by simp);exact I.step (g':=s.gens) (d':=s.drawn) (ch:=[]) (λ_ z=>nomatch z) (λb o _ hb _ e n=>u.keep b o e n hb (by simp)) (λb o _ hb _ e n=>u.slot b o e n hb (by simp)) (λb o _ e n=>u.free b o e n (by simp)) (λb o _ e=>u.there b o e (by simp)) u.br u.oR u.nu (λm' hm=>by
  obtain ⟨o',es',UK,rj,r'⟩:=hm;rw [ho] at rj;cases rj;exact ⟨_,es',UK,hL,r'⟩) bF I.bare
theorem Inv.call {g':Array GenState}{t':Nat}{d':Drawn}{ch:List Addr}(I:Inv X af σ H s)(u:Un (RP X.stack) ch H H' s.heap h')(bF:ic X.prog X.w H' h')(hg:AllBare g')
  (UE:∀ b∈ch,(b∈X.ex\/X.dh.heap.objs.size<=b)/\b≠X.env.locals/\(∀ x c,X.env.cells.lookup x=some c->c≠b)/\∀ p∈X.pn++af,p.1≠b) :
  Inv X af σ H' { s with heap:=h',gens:=g',drawn:=d',toks:=t' }:=by
 obtain ⟨m,⟨o,es,ep,ho,r⟩,_⟩:=id I.loc;obtain ⟨sl,hL⟩:=u.any ho I.free λz=>(UE _ z).2.1 rfl;exact I.step (ch:=ch) UE (λb o hL hb hc e n=>u.keep b o e n (λz=>(zH.mp (I.kE b z)).elim hL hb) hc) (λb o _ _ hc e n=>u.any e n hc) (λb o hc e n=>u.free b o e n hc) (λb o hc e=>u.there b o e hc) u.br u.oR u.nu (λm' hm=>by
  obtain ⟨o',es',UK,rj,r'⟩:=hm;rw [ho] at rj;cases rj;exact ⟨_,es',UK,hL,r'⟩) bF hg
theorem Inv.turned {t':Nat}{it:Addr}(I:Inv X af σ H s)(k:∀ b o,b≠it->s.heap.get? b=some o->h'.get? b=some o)(hn:H it=none)(hL:it≠X.env.locals)
  (h1:it∈X.ex\/X.dh.heap.objs.size<=it) (h2:∀ x c,X.env.cells.lookup x=some c->c≠it) (h3:∀ p∈X.pn++af,p.1≠it):Inv X af σ H { s with heap:=h',toks:=t' }:=by
 have nit:∀ b u,H b=some u->b≠it:=λb u e z=>by rw [z,hn] at e;cases e
 refine I.step (g':=s.gens) (d':=s.drawn) (ch:=[it]) (λb hb=>?_) (λb o _ _ hc e _=>k b o (λz=>hc (by simp [z])) e) (λb o _ _ hc e _=>⟨o.slots,k b o (λz=>hc (by simp [z])) e⟩) (λ_ _ _ _ n=>n)
  (λb o hc e=>⟨o,k b o (λz=>hc (by simp [z])) e⟩) (λ_ _ e=>e) (λ_ _ _ e=>e) (λb ps e=>⟨#[],by rw [e];simp⟩) (λm hm=>?_) (λb u e=>?_) I.bare
 ·have e:b=it:=by simpa using hb
  subst e;exact ⟨h1,hL,h2,h3⟩
 ·obtain ⟨o,es,ep,ho,r⟩:=hm;exact ⟨o,es,ep,k _ o (Ne.symm hL) ho,r⟩
 ·refine (I.bF b u e).dX (λc v hc q=>k c v ?_ q) (λ_ q=>q) λ_ _ q=>q;rcases hc with z | z
  ·rw [z];exact nit b u e
  ·exact nit c _ z
theorem Inv.tok (I:Inv X af σ H s)(t:Nat):Inv X af σ H { s with toks:=t }:=I.un (h':=s.heap) (t':=t) Un.refl I.bF
theorem Inv.kept {t':Nat}(I:Inv X af σ H s)(k:∀ b u,s.heap.get? b=some u->h'.get? b=some u):Inv X af σ H { s with heap:=h',toks:=t' }:=I.un (Un.kept k) (I.bF.kept k)
theorem Inv.laid {a:Addr}{o:HO}{t':Nat}(I:Inv X af σ H s)(k:∀ b u,s.heap.get? b=some u->h'.get? b=some u)(hp:s.heap.objs.size<=a)(new:bJ X.prog X.w (upd H a o) h' a o) :
  Inv X af σ (upd H a o) { s with heap:=h',toks:=t' }:=I.un (Un.laid k hp (I.bF.fresh hp)) (I.bF.laid k hp new)
theorem Inv.write {x e:Addr}{o:HO}{t':Nat}(I:Inv X af σ H s)(mu:Mut (H x))(he:e=x\/H e=some (.own x))(k:∀ b u,b≠e->s.heap.get? b=some u->h'.get? b=some u)(Zl:∃ u,h'.get? e=some u)
  (new:bJ X.prog X.w (upd H x o) h' x o):Inv X af σ (upd H x o) { s with heap:=h',toks:=t' }:=I.un (Un.write mu he k Zl) (I.bF.write mu he k Zl new)
theorem Inv.cV {iR:List (Addr×Obj)}(I:Inv X af σ H s)(h:∀ p∈iR,s.heap.get? p.1=some p.2/\H p.1=none/\p.1≠X.env.locals/\p.1 ∉ X.fs/\∀ v,p.2.data≠.cell v):Inv X iR σ H s:=
 ⟨I.ok,I.os,I.bare,I.base,I.loc,I.cell,I.free,I.iU,λp hp=>(zW.mp hp).elim (λz=>I.pin p (z4 _ z)) (h p),I.bF,I.len⟩
theorem vP {N:List Str}(hN:N.Nodup){i j:Nat}{x:Str}(a:N[i]?=some x)(b:N[j]?=some x):i=j:=by obtain ⟨h1,e1⟩:=zC.mp a;obtain ⟨h2,e2⟩:=zC.mp b;exact (List.getElem_inj hN).mp (e1.trans e2.symm)
noncomputable def Q0 (sc:Scope)(x:Str):Bool:=match sc.names.lookup x with | some .local=>true | some .cell=>true | _=>false
theorem mK {sc:Scope}{x:Str}(h:Q0 sc x=true):Loc sc x:=by
 unfold Q0 at h;unfold Loc
 revert h
 cases sc.names.lookup x with
 | none=>intro h;cases h
 | some k=>cases k <;> intro h <;> first | exact .inl rfl | exact .inr rfl | cases h
noncomputable def lU (X:Cx)(x:Str):Bool:=X.fn x || (match X.env.scope.names.lookup x with | some .local=>true | _=>false)
theorem T6 {X:Cx}{x:Str}(h:lU X x=true):X.fn x=true\/X.env.scope.names.lookup x=some .local:=by
 unfold lU at h;cases e:X.fn x with
 | true=>exact .inl rfl
 | false=>
  rw [e,Bool.false_or] at h
  revert h
  cases X.env.scope.names.lookup x with
  | none=>intro h;cases h
  | some k=>cases k <;> intro h <;> first | exact .inr rfl | cases h
noncomputable def Xj (sc:Scope)(x:Str):Bool:=match sc.names.lookup x with | some .local=>true | some .cell=>true | some .free=>true | _=>false
theorem UN {sc:Scope}{x:Str}(h:Xj sc x=true):Vis sc x:=by
 unfold Xj at h;unfold Vis
 revert h
 cases sc.names.lookup x with
 | none=>intro h;cases h
 | some k=>cases k <;> intro h <;> first | exact .inl rfl | exact .inr (.inl rfl) | exact .inr (.inr rfl) | cases h
theorem Qt {M:Model}{A:Around}{E:Value->Shared->Prop}{i:Nat}{x:Str}{v:V}{u:Value}{Q:Unit->Shared->Prop}(I:Inv X af σ H s)(hN:X.N.Nodup)(hi:X.N[i]?=some x)(hx:Loc X.env.scope x)(r:RelV v u)
  (h:∀ s',Inv X af (σ.set i (some v)) H s'->(∃ a,Heap.SameBut a s.heap s'.heap/\(a=X.env.locals\/X.env.cells.lookup x=some a))->Q () s') (hf:lU X x=true:=by rfl):wpAny M A (storeName X.env x u) Q E s:=by
 have hf:=T6 hf;obtain ⟨m,hn,hl⟩:=id I.loc;have adx:(X.env.scope.kind == .class || (X.env.scope.kind == .module && X.env.locals != X.env.globals))=false:=by rw [I.ok.kind];rfl
 have aaG:i < σ.length:=by rw [I.len];exact (zC.mp hi).1
 have YU:=I.YU;have tracked:∀ {a:Addr}{h':Heap},(∃ o,s.heap.get? a=some o/\H a=none)->Heap.SameBut a s.heap h'->ic X.prog X.w H h':=λ{a h'} ha hs b ob e=>by
  obtain ⟨_,_,WQ⟩:=ha;refine (I.bF b ob e).dX (λc w' hc q=>(hs.2 c ?_).trans q) (λ_ q=>q) λ_ _ q=>q;rintro rfl;rcases hc with rfl | hc
  ·rw [WQ] at e;cases e
  ·rw [WQ] at hc;cases hc
 rcases hx with hk | hk
 ·refine wpAny_storeName_local hk hn (λh' VY hs=>?_) adx;obtain ⟨oL,_,_,hoL,_⟩:=id hn;refine h _ ⟨I.ok,I.os,I.bare,⟨λb o e n hb hx=>?_,λb o e n hb hx=>?_,I.base.free,λb o e hx=>?_,I.base.br,I.base.oR,I.base.nu⟩,⟨_,VY,λj y v' e1 e2 e3=>?_⟩,λy c e=>?_,I.free,I.iU,λp hp=>?_,tracked ⟨oL,hoL,I.free⟩ hs,by simpa using I.len⟩ ⟨_,hs,.inl rfl⟩
  ·exact (hs.2 b (zY (zT (Heap.lt_size e) I.ok.above))).trans (I.base.keep b o e n hb hx)
  ·obtain ⟨sl,e1⟩:=I.base.slot b o e n hb hx;exact ⟨sl,(hs.2 b (zY (zT (Heap.lt_size e) I.ok.above))).trans e1⟩
  ·obtain ⟨o',e1⟩:=I.base.there b o e hx;exact ⟨o',(hs.2 b (zY (zT (Heap.lt_size e) I.ok.above))).trans e1⟩
  ·by_cases hj:j=i
   ·subst hj;rw [hi] at e1;cases e1;rw [List.getElem?_set_self aaG] at e2;cases e2;exact ⟨u,r,.inl ⟨hk,by simp⟩⟩
   ·rw [List.getElem?_set_ne (Ne.symm hj)] at e2;obtain ⟨u',r',q⟩:=hl j y v' e1 e2 e3;refine ⟨u',r',?_⟩;rcases q with ⟨k,e⟩ | ⟨k,c,e,z⟩
    ·refine .inl ⟨k,?_⟩;have:y≠x:=λe=>hj (vP hN e1 (e ▸ hi));simp [this,e]
    ·exact .inr ⟨k,c,e,z.sameBut hs (YU y c e)⟩
  ·obtain ⟨w',z⟩:=I.cell y c e;exact ⟨w',z.sameBut hs (YU y c e)⟩
  ·obtain ⟨e,n,ne,nf,d⟩:=I.pin p hp;exact ⟨(hs.2 p.1 ne).trans e,n,ne,nf,d⟩
 ·have hfn:X.fn x=true:=by
   rcases hf with z | z
   ·exact z
   ·rw [z] at hk;cases hk
  obtain ⟨c,hc⟩:=I.ok.has x (.inl hk);obtain ⟨w',z⟩:=I.cell x c hc;refine wpAny_storeName_cell I.ok.kind hk hc z (λh' UG hs=>?_);obtain ⟨oc,hoc,ade⟩:=id z;refine h { s with heap:=h' } ⟨I.ok,I.os,I.bare,⟨λb o e n hb hx=>?_,λb o e n hb hx=>?_,I.base.free,λb o e hx=>?_,I.base.br,I.base.oR,I.base.nu⟩,⟨m,hn.sameBut hs (Ne.symm (YU x c hc)),λj y v' e1 e2 e3=>?_⟩,λy c' e=>?_,I.free,I.iU,λp hp=>?_,tracked ⟨oc,hoc,I.iU x c hc⟩ hs,by simpa using I.len⟩ ⟨c,hs,.inr hc⟩
  ·exact (hs.2 b (zY (zT (Heap.lt_size e) (I.ok.cab x c hfn hc)))).trans (I.base.keep b o e n hb hx)
  ·obtain ⟨sl,e1⟩:=I.base.slot b o e n hb hx;exact ⟨sl,(hs.2 b (zY (zT (Heap.lt_size e) (I.ok.cab x c hfn hc)))).trans e1⟩
  ·obtain ⟨o',e1⟩:=I.base.there b o e hx;exact ⟨o',(hs.2 b (zY (zT (Heap.lt_size e) (I.ok.cab x c hfn hc)))).trans e1⟩
  ·by_cases hj:j=i
   ·subst hj;rw [hi] at e1;cases e1;rw [List.getElem?_set_self aaG] at e2;cases e2;exact ⟨u,r,.inr ⟨.inl hk,c,hc,UG⟩⟩
   ·rw [List.getElem?_set_ne (Ne.symm hj)] at e2;obtain ⟨u',r',q⟩:=hl j y v' e1 e2 e3;refine ⟨u',r',?_⟩;rcases q with q | ⟨k,c',e,z'⟩
    ·exact .inl q
    ·refine .inr ⟨k,c',e,z'.sameBut hs ?_⟩;rintro rfl;exact hj (vP hN e1 (I.ok.inj _ _ _ e hc ▸ hi))
  ·by_cases hcc:c'=c
   ·subst hcc;exact ⟨_,UG⟩
   ·obtain ⟨w2,z2⟩:=I.cell y c' e;exact ⟨w2,z2.sameBut hs hcc⟩
  ·obtain ⟨e,n,ne,nf,d⟩:=I.pin p hp;refine ⟨(hs.2 p.1 ?_).trans e,n,ne,nf,d⟩;intro q;rw [q,hoc] at e;have q':oc=p.2:=Option.some.inj e;exact d w' (by rw [<-q'];exact ade)
theorem jw {M:Model}{A:Around}{E:Value->Shared->Prop}{i:Nat}{x:Str}{v:V}{u:Value}{Q:Unit->Shared->Prop}(I:Inv X af σ H s)(hN:X.N.Nodup)(hi:X.N[i]?=some x)(hx:Loc X.env.scope x)(r:RelV v u)
  (h:∀ s',Inv X af (σ.set i (some v)) H s'->Q () s') (hf:lU X x=true:=by rfl):wpAny M A (storeName X.env x u) Q E s:=
 Qt I hN hi hx r (λs' I' _=>h s' I') hf
theorem Inv.Xa {s':Shared}{ch:List Addr}(I:Inv X af σ H s)(ho:s'.os=s.os)(u:Un (RP X.stack) ch H H' s.heap s'.heap)(bF:ic X.prog X.w H' s'.heap)(hg:AllBare s'.gens)
  (UE:∀ b∈ch,(b∈X.ex\/X.dh.heap.objs.size<=b)/\b≠X.env.locals/\(∀ x c,X.env.cells.lookup x=some c->c≠b)/\∀ p∈X.pn++af,p.1≠b):Inv X af σ H' s':=by
 obtain ⟨h',g',d',t',o'⟩:=s';have e:o'=s.os:=ho;subst e;exact I.call (g':=g') (t':=t') (d':=d') u bF hg UE
end
abbrev XK:=Value->Option Addr->Hp->Prop
abbrev St:=List (Option V)
abbrev VK:=V->Hp->Prop
abbrev TE:=St->Hp->VK->Prop
abbrev TT:=St->Hp->(Bool->Hp->Prop)->Prop
abbrev TA:=St->Hp->(List V->Hp->Prop)->Prop
structure Ends where
 nx:St->Hp->Prop
 rt:VK
 bk:St->Hp->Prop:=λ_ _=>False
 ct:St->Hp->Prop:=λ_ _=>False
abbrev Ends.go (D:Ends)(n:St->Hp->Prop):Ends:={ D with nx:=n }
noncomputable abbrev Ends.lp (D:Ends)(n:St->Hp->Prop):Ends:={ D with nx:=n,ct:=n,bk:=D.nx }
abbrev TS:=Ends->St->Hp->Prop
noncomputable def EP (X:Cx)(af:List (Addr×Obj))(σ:St)(Q:VK)(u:Value)(s':Shared):Prop:=∃ v H',Inv X af σ H' s'/\RelV v u/\Q v H'
noncomputable def TP (X:Cx)(af:List (Addr×Obj))(σ:St)(Q:Bool->Hp->Prop)(b:Bool)(s':Shared):Prop:=∃ H',Inv X af σ H' s'/\Q b H'
noncomputable def AP (X:Cx)(af:List (Addr×Obj))(σ:St)(Q:List V->Hp->Prop)(us:List Value)(s':Shared):Prop:=∃ vs H',Inv X af σ H' s'/\Vals vs us/\Q vs H'
noncomputable def SP (X:Cx)(af:List (Addr×Obj))(D:Ends)(f:Flow)(s':Shared):Prop:=
 match f with
 | .next=>∃ cA H',Inv X af cA H' s'/\D.nx cA H'
 | .brk=>∃ cA H',Inv X af cA H' s'/\D.bk cA H'
 | .cont=>∃ cA H',Inv X af cA H' s'/\D.ct cA H'
 | .ret u=>∃ v cA H',Inv X af cA H' s'/\RelV v u/\D.rt v H'
noncomputable def PE (X:Cx)(e:Expr)(t:TE):Prop:=
 ∀ (af:List (Addr×Obj)) (s:Shared) (σ:St) (H:Hp) (Q:VK),Inv X af σ H s->t σ H Q->wpAny (model X.prog X.w) X.A (eval e X.env) (EP X af σ Q) X.xe s
noncomputable def PT (X:Cx)(e:Expr)(t:TT):Prop:=
 ∀ (af:List (Addr×Obj)) (s:Shared) (σ:St) (H:Hp) (Q:Bool->Hp->Prop),Inv X af σ H s->t σ H Q->wpAny (model X.prog X.w) X.A (isTrue e X.env (eval e X.env)) (TP X af σ Q) X.xe s
noncomputable def PW (X:Cx)(e:Expr)(t:TT):Prop:=
 ∀ (whole:Sem Value) (af:List (Addr×Obj)) (s:Shared) (σ:St) (H:Hp) (Q:Bool->Hp->Prop),Inv X af σ H s->t σ H Q->wpAny (model X.prog X.w) X.A (isTrue e X.env whole) (TP X af σ Q) X.xe s
theorem PW.pt {X:Cx}{e:Expr}{t:TT}(h:PW X e t):PT X e t:=h _
noncomputable def PA (X:Cx)(es:List Expr)(t:TA):Prop:=
 ∀ (pos:Pos) (af:List (Addr×Obj)) (s:Shared) (σ:St) (H:Hp) (Q:List V->Hp->Prop),Inv X af σ H s->t σ H Q->wpAny (model X.prog X.w) X.A (spliced (backTo pos (starEach es X.env))) (AP X af σ Q) X.xe s
noncomputable def PS (X:Cx)(st:Stmt)(t:TS):Prop:=
 ∀ (af:List (Addr×Obj)) (s:Shared) (σ:St) (H:Hp) (D:Ends),Inv X af σ H s->t D σ H->wpAny (model X.prog X.w) X.A (exec st X.env) (SP X af D) X.xe s
noncomputable def tE (X:Cx)(st:List Stmt)(t:TS):Prop:=
 ∀ (af:List (Addr×Obj)) (s:Shared) (σ:St) (H:Hp) (D:Ends),Inv X af σ H s->t D σ H->wpAny (model X.prog X.w) X.A (execs st X.env) (SP X af D) X.xe s
theorem bG {α:Type}{t:Sem α}{Q Q':α->Shared->Prop}{M:Model}{A:Around}{E:Value->Shared->Prop}{s:Shared}(h:wpAny M A t Q E s)(hQ:∀ a s,Q a s->Q' a s):wpAny M A t Q' E s:=wpAny_mono h hQ λ_ _ x=>x
section
variable {X:Cx}
def pV (i:Nat):TE:=fun σ H Q=>∃ v,σ[i]?=some (some v)/\Q v H
def tC (v:V):TE:=λ_ H Q=>Q v H
theorem XQ {i:Nat}{x:Str}{pos:Pos}(hN:X.N[i]?=some x)(hv:Vis X.env.scope x)(hd:(x == ("__debug__" : Str))=false:=by decide)(Nl:(x == ("__classdict__" : Str))=false:=by decide):PE X (.Name x pos) (pV i):=by
 intro af s σ H Q I h;obtain ⟨v,e,h⟩:=h;obtain ⟨m,hn,hl⟩:=I.loc;obtain ⟨u,r,l⟩:=hl i x v hN e hv;have fin:EP X af σ Q u s:=⟨v,H,I,r,h⟩;rcases l with ⟨hk,hm⟩ | ⟨hk,c,hc,P9⟩
 ·exact wpAny_Name (wpAny_loadName_local I.ok.kind hk hn hm fin) hd
 ·rcases hk with hk | hk
  ·exact wpAny_Name (wpAny_loadName_cell I.ok.kind hk hc P9 fin) hd
  ·exact wpAny_Name (wpAny_loadName_free I.ok.kind hk hc P9 fin Nl) hd
theorem xy {i j pos}:PE X (.Constant (.int i) j pos) (tC (.int i)):=λ_ _ _ H _ I h=>wpAny_Constant_int ⟨.int i,H,I.tok _,⟨_,rfl⟩,h⟩
theorem fH {b j pos}:PE X (.Constant (.bool b) j pos) (tC (.bl b)):=λ_ _ _ H _ I h=>Constant_bool ⟨.bl b,H,I,rfl,h⟩
theorem eY {j pos}:PE X (.Constant .none j pos) (tC .bL):=λ_ _ _ H _ I h=>Constant_none ⟨.bL,H,I,rfl,h⟩
theorem kL {x j pos}:PE X (.Constant (.str x) j pos) (tC (.str x)):=λ_ _ _ H _ I h=>Calls.Constant_str ⟨.str x,H,I.tok _,⟨_,rfl⟩,h⟩
def Gl (X:Cx)(x:Str):Prop:=X.env.kindOf x=some .globalImplicit
theorem uu {E:Value->Shared->Prop}{af:List (Addr×Obj)}{s:Shared}{σ:St}{H:Hp}{x:Str}{u:Value}{pos:Pos}{Q:Value->Shared->Prop}(I:Inv X af σ H s)(hg:Gl X x)(hm:X.mg x=some u)(h:Q u s)
  (hd:(x == ("__debug__" : Str))=false:=by decide):wpAny (model X.prog X.w) X.A (eval (.Name x pos) X.env) Q E s:=
 Calls.Name_function_global I.ok.kind hg (Calls.loadGlobal_global (by rw [I.ok.glob];exact I.mod.glob.keeps I.bk) hm h) hd
theorem fY {E:Value->Shared->Prop}{af:List (Addr×Obj)}{s:Shared}{σ:St}{H:Hp}{x:Str}{u:Value}{pos:Pos}{Q:Value->Shared->Prop}(I:Inv X af σ H s)(hg:Gl X x)(hm:X.mg x=none)(hv:bootBuiltins x=some u)(h:Q u s)
  (hn:x ≠ "__name__" := by decide) (hd:(x == ("__debug__" : Str))=false:=by decide):wpAny (model X.prog X.w) X.A (eval (.Name x pos) X.env) Q E s:=by
 obtain ⟨mb,h1,h2⟩:=I.mod.blt;exact Calls.Name_function_global I.ok.kind hg (Calls.loadGlobal_builtin (by rw [I.ok.glob];exact I.mod.glob.keeps I.bk) hm (by rw [I.ok.blt];exact h1.keeps I.bk) ((h2 x hn).trans hv) h) hd
theorem fU {x:Str}{v:V}{u:Value}{pos:Pos}(hg:Gl X x)(hm:X.mg x=some u)(r:RelV v u)(hd:(x == ("__debug__" : Str))=false:=by decide):PE X (.Name x pos) (tC v):=
 λ_ _ _ H _ I h=>uu I hg hm ⟨v,H,I,r,h⟩ hd
theorem iy {x:Str}{v:V}{u:Value}{pos:Pos}(hg:Gl X x)(hm:X.mg x=none)(hv:bootBuiltins x=some u)(r:RelV v u)(hn:x ≠ "__name__" := by decide)(hd:(x == ("__debug__" : Str))=false:=by decide):PE X (.Name x pos) (tC v):=
 λ_ _ _ H _ I h=>fY I hg hm hv ⟨v,H,I,r,h⟩ hn hd
variable {a b:Expr}{ta tb:TE}{pos:Pos}
noncomputable def PC (X:Cx)(op:CmpOp)(a b:Expr)(t:TE):Prop:=
 ∀ (af:List (Addr×Obj)) (s:Shared) (σ:St) (H:Hp) (Q:VK),Inv X af σ H s->t σ H Q ->
  wpAny (model X.prog X.w) X.A (eval a X.env) (λv bH=>wpAny (model X.prog X.w) X.A (eval b X.env) (λu kB=>wpAny (model X.prog X.w) X.A (compareOp op v u) (EP X af σ Q) X.xe kB) X.xe bH) X.xe s
def ach (ta:TE):TE:=fun σ H Q=>ta σ H λx H1=>Q (.bl (decide (x=.bL))) H1
def ZF (ta:TE):TE:=fun σ H Q=>ta σ H λx H1=>Q (.bl (!decide (x=.bL))) H1
theorem RelV.vO {x:V}{v:Value}(r:RelV x v):(v == Value.none)=decide (x=.bL):=by
 cases x with
 | bL=>cases r;rfl
 | bl _=>cases r;rfl
 | int _=>obtain ⟨t,rfl⟩:=r;rfl
 | str _=>obtain ⟨t,rfl⟩:=r;rfl
 | Rz _=>obtain ⟨t,rfl⟩:=r;rfl
 | WX _=>obtain ⟨t,rfl⟩:=r;rfl
 | ref _=>cases r;rfl
 | ty _=>cases r;rfl
theorem kM {j pos'}(ha:PE X a ta):PC X .Is a (.Constant .none j pos') (ach ta):=by intro af s σ H Q I h;refine bG (ha af s σ H _ I h) λv s1 ⟨x,H1,I1,r1,q1⟩=>?_;exact Constant_none (is_none_gen ⟨.bl _,H1,I1,by rw [r1.vO];rfl,q1⟩)
theorem iz {j pos'}(ha:PE X a ta):PC X .IsNot a (.Constant .none j pos') (ZF ta):=by intro af s σ H Q I h;refine bG (ha af s σ H _ I h) λv s1 ⟨x,H1,I1,r1,q1⟩=>?_;exact Constant_none (isnot_none_gen ⟨.bl _,H1,I1,by rw [r1.vO];rfl,q1⟩)
def tB (t:TE):TT:=fun σ H Q=>t σ H λx H1=>∃ c,x=.bl c/\Q c H1
theorem nU {op:CmpOp}{t:TE}(h:PC X op a b t)(h1:behindInMarks op b=false:=by rfl):PE X (.Compare a [op] [b] pos) t:=λaf s σ H Q I hw=>wpAny_Compare1 (h af s σ H Q I hw) h1
theorem i7 {op:CmpOp}{t:TE}(h:PC X op a b t)(h1:behindInMarks op b=false:=by rfl):PT X (.Compare a [op] [b] pos) (tB t):=by intro af s σ H Q I hw;refine wpAny_isTrue_Compare1 (bG (h af s σ H _ I hw) λv s1 h1=>bG h1 λu s2 h2=>bG h2 λc s3 ⟨x,H1,I1,r1,q1⟩=>?_) h1;obtain ⟨d,rfl,q⟩:=q1;cases r1;exact wpAny_truthy_bool ⟨H1,I1,q⟩
theorem qF {e:Expr}{t:TE}(h:PE X e t)(he:∀ whole,isTrue e X.env whole=(do let v <- whole;standAt e.pos;holding [v] (truthy v)):=by intro _;rfl):PT X e (tB t):=by intro af s σ H Q I hw;refine isTrue_plain (bG (h af s σ H _ I hw) λv s1 ⟨x,H1,I1,r1,q1⟩=>?_) (he _);obtain ⟨d,rfl,q⟩:=q1;cases r1;exact wpAny_truthy_bool ⟨H1,I1,q⟩
variable {tA tB':TT}{rest:List Expr}
noncomputable def tZ (t u:TT):TT:=fun σ H Q=>t σ H λc H1=>if c=true then u σ H1 Q else Q false H1
noncomputable def UY (t u:TT):TT:=fun σ H Q=>t σ H λc H1=>if c=true then Q true H1 else u σ H1 Q
def tV (t:TT):TT:=fun σ H Q=>t σ H λc H1=>Q (!c) H1
theorem dB (ha:PT X a tA):PW X (.BoolOp .And [a] pos) tA:=by
 intro wh af s σ H Q I h;refine isTrue_and (bG (ha af s σ H Q I h) λc s1 e=>?_);cases c with
 | true=>exact isTrue_and_nil e
 | false=>exact e
theorem eU (ha:PT X a tA):PW X (.BoolOp .Or [a] pos) tA:=by
 intro wh af s σ H Q I h;refine isTrue_or (bG (ha af s σ H Q I h) λc s1 e=>?_);cases c with
 | false=>exact isTrue_or_nil e
 | true=>exact e
theorem eV (ha:PT X a tA)(hb:PW X (.BoolOp .And (b::rest) pos) tB'):PW X (.BoolOp .And (a::b::rest) pos) (tZ tA tB'):=by
 intro wh af s σ H Q I h;refine isTrue_and (bG (ha af s σ H _ I h) λc s1 ⟨H1,I1,q1⟩=>?_);cases c with
 | true=>exact hb wh af s1 σ H1 Q I1 q1
 | false=>exact ⟨H1,I1,q1⟩
theorem iQ (ha:PT X a tA)(hb:PW X (.BoolOp .Or (b::rest) pos) tB'):PW X (.BoolOp .Or (a::b::rest) pos) (UY tA tB'):=by
 intro wh af s σ H Q I h;refine isTrue_or (bG (ha af s σ H _ I h) λc s1 ⟨H1,I1,q1⟩=>?_);cases c with
 | true=>exact ⟨H1,I1,q1⟩
 | false=>exact hb wh af s1 σ H1 Q I1 q1
theorem qV (ha:PT X a tA):PT X (.UnaryOp .Not a pos) (tV tA):=by intro af s σ H Q I h;exact isTrue_not (ha af s σ H (λc H1=>Q (!c) H1) I h)
noncomputable def jv (ta tb:TE):TE:=fun σ H Q=>ta σ H λx H1=>∃ c,x=.bl c/\if c=true then tb σ H1 Q else Q (.bl false) H1
noncomputable def tU (ta tb:TE):TE:=fun σ H Q=>ta σ H λx H1=>∃ c,x=.bl c/\if c=true then Q (.bl true) H1 else tb σ H1 Q
def jq (ta:TE):TE:=fun σ H Q=>ta σ H λx H1=>∃ c,x=.bl c/\Q (.bl (!c)) H1
theorem fS {op}{t:TE}(h:PE X a t):PE X (.BoolOp op [a] pos) t:=λaf s σ H Q I hw=>BoolOp_one (h af s σ H Q I hw)
theorem dJ (ha:PE X a ta)(hb:PE X (.BoolOp .And (b::rest) pos) tb):PE X (.BoolOp .And (a::b::rest) pos) (jv ta tb):=by
 intro af s σ H Q I h;refine BoolOp_and (bG (ha af s σ H _ I h) λv s1 ⟨x,H1,I1,r1,q1⟩=>?_);obtain ⟨c,rfl,q1⟩:=q1;cases r1;refine wpAny_truthy_bool ?_;cases c with
 | true=>exact hb af s1 σ H1 Q I1 q1
 | false=>exact ⟨.bl false,H1,I1,rfl,q1⟩
theorem Z3 (ha:PE X a ta)(hb:PE X (.BoolOp .Or (b::rest) pos) tb):PE X (.BoolOp .Or (a::b::rest) pos) (tU ta tb):=by
 intro af s σ H Q I h;refine BoolOp_or (bG (ha af s σ H _ I h) λv s1 ⟨x,H1,I1,r1,q1⟩=>?_);obtain ⟨c,rfl,q1⟩:=q1;cases r1;refine wpAny_truthy_bool ?_;cases c with
 | false=>exact hb af s1 σ H1 Q I1 q1
 | true=>exact ⟨.bl true,H1,I1,rfl,q1⟩
theorem OD (ha:PE X a ta):PE X (.UnaryOp .Not a pos) (jq ta):=by intro af s σ H Q I h;refine UnaryOp_ (bG (ha af s σ H _ I h) λv s1 ⟨x,H1,I1,r1,q1⟩=>?_);obtain ⟨c,rfl,q1⟩:=q1;cases r1;exact not_of (wpAny_truthy_bool ⟨.bl (!c),H1,I1,rfl,q1⟩)
noncomputable def tIf (t:TT)(ta tb:TE):TE:=fun σ H Q=>t σ H λc H1=>if c=true then ta σ H1 Q else tb σ H1 Q
theorem jF {c:Expr}(hc:PT X c tA)(ha:PE X a ta)(hb:PE X b tb):PE X (.IfExp c a b pos) (tIf tA ta tb):=by
 intro af s σ H Q I h;refine wpAny_IfExp (bG (hc af s σ H _ I h) λd s1 ⟨H1,I1,q1⟩=>?_);cases d with
 | true=>exact ha af s1 σ H1 Q I1 q1
 | false=>exact hb af s1 σ H1 Q I1 q1
end
noncomputable def aU (K:PySem.W.Frag)(H:Hp)(a:Addr)(xs:List V):Prop:=
 Rd H a (.lst xs) \/
  ∃ (o:Obj) (aH:Array Value) (n:Nat),K.lookup a=some o/\o.cls=.type "list" /\ o.dict=none/\o.data=.seq aH n/\aH.size<=sizeLine/\Vals xs aH.toList
noncomputable def bS (K:PySem.W.Frag)(H:Hp)(a:Addr)(xs:List V):Prop:=
 Rd H a (.tup xs) \/
  ∃ (o:Obj) (aH:Array Value) (n:Nat),K.lookup a=some o/\o.cls=.type "tuple" /\ o.data=.seq aH n/\aH.size<=sizeLine/\Vals xs aH.toList
noncomputable def aa9:Value->Option V
 | .none=>some .bL
 | .bool b=>some (.bl b)
 | .int i _=>some (.int i)
 | .str x _=>some (.str x)
 | .bytes b _=>some (.Rz b)
 | .float b _=>some (.WX b)
 | .ref a=>some (.ref a)
 | .type n=>some (.ty n)
 | _=>none
theorem RelV.abs {x:V}{u:Value}(r:RelV x u):aa9 u=some x:=by
 cases x with
 | bL=>cases r;rfl
 | bl _=>cases r;rfl
 | int _=>obtain ⟨t,rfl⟩:=r;rfl
 | str _=>obtain ⟨t,rfl⟩:=r;rfl
 | Rz _=>obtain ⟨t,rfl⟩:=r;rfl
 | WX _=>obtain ⟨t,rfl⟩:=r;rfl
 | ref _=>cases r;rfl
 | ty _=>cases r;rfl
theorem RelV.inj {x y:V}{u:Value}(r:RelV x u)(q:RelV y u):x=y:=Option.some.inj (r.abs.symm.trans q.abs)
theorem Vals.inj:∀ {xs ys:List V}{us:List Value},Vals xs us->Vals ys us->xs=ys
 | _,_,_,.nil,.nil=>rfl
 | _,_,_,.cons r t,.cons r' t'=>by rw [r.inj r',Vals.inj t t']
section
variable {X:Cx}{af:List (Addr×Obj)}{σ:St}{H:Hp}{s:Shared}{a:Addr}{xs ys:List V}
theorem aU.of {K:PySem.W.Frag}(h:H a=some (.lst xs)):aU K H a xs:=.inl (.inl h)
theorem bS.of {K:PySem.W.Frag}(h:H a=some (.tup xs)):bS K H a xs:=.inl (.inl h)
theorem Inv.list (I:Inv X af σ H s)(h:aU X.K H a xs):∃ aH:List Value,Vals xs aH/\PlainL s.heap a aH.toArray/\xs.length<=sizeLine:=by
 rcases h with h | ⟨o,aH,n,hk,hc,hd,hs,hz,r⟩
 ·obtain ⟨z,aH,n,r,e⟩:=h.ok I.bF;exact ⟨aH,r,⟨_,n,e,rfl,rfl,rfl⟩,z⟩
 ·refine ⟨aH.toList,r,⟨o,n,I.mj a o hk,hc,hd,by simpa using hs⟩,?_⟩;have e:=r.length;simp only [Array.length_toList] at e;omega
theorem Inv.tuple (I:Inv X af σ H s)(h:bS X.K H a xs):∃ aH:List Value,Vals xs aH/\IsTup s.heap a aH.toArray/\xs.length<=sizeLine:=by
 rcases h with h | ⟨o,aH,n,hk,hc,hs,hz,r⟩
 ·obtain ⟨z,aH,r,p⟩:=h.ok I.bF;exact ⟨aH,r,p,z.1⟩
 ·refine ⟨aH.toList,r,⟨o,I.mj a o hk,hc,n,by simpa using hs⟩,?_⟩;have e:=r.length;simp only [Array.length_toList] at e;omega
theorem Inv.Na (I:Inv X af σ H s)(h:aU X.K H a xs)(h':aU X.K H a ys):xs=ys:=by
 obtain ⟨aH,r,⟨o,n,e,_,_,d⟩,_⟩:=I.list h;obtain ⟨its',r',⟨o',n',e',_,_,d'⟩,_⟩:=I.list h';rw [e] at e';cases e';rw [d] at d';injection d' with d1 _
 have:aH=its':=by simpa using congrArg Array.toList d1
 subst this;exact r.inj r'
theorem Inv.rR (I:Inv X af σ H s)(h:bS X.K H a xs)(h':bS X.K H a ys):xs=ys:=by
 obtain ⟨aH,r,⟨o,e,_,n,d⟩,_⟩:=I.tuple h;obtain ⟨its',r',⟨o',e',_,n',d'⟩,_⟩:=I.tuple h';rw [e] at e';cases e';rw [d] at d';injection d' with d1 _
 have:aH=its':=by simpa using congrArg Array.toList d1
 subst this;exact r.inj r'
end
abbrev Cx.bV (X:Cx)(E:Value->Shared->Prop):Cx:={ X with xe:=E }
abbrev Cx.S3 (X:Cx):Cx:=X.bV λ_ _=>False
theorem Cx.Ok.bV {X:Cx}(ok:X.Ok)(E:Value->Shared->Prop):(X.bV E).Ok:=
 ⟨ok.mod,ok.kind,ok.glob,ok.blt,ok.above,ok.inj,ok.has,ok.cab,ok.hd,ok.frames,ok.stk,ok.exf,ok.bs,ok.Ui,ok.S5,ok.Wf,ok.jO,ok.WV⟩
theorem Cx.Ok.fR {X:Cx}{E:Value->Shared->Prop}(ok:(X.bV E).Ok):X.Ok:=
 ⟨ok.mod,ok.kind,ok.glob,ok.blt,ok.above,ok.inj,ok.has,ok.cab,ok.hd,ok.frames,ok.stk,ok.exf,ok.bs,ok.Ui,ok.S5,ok.Wf,ok.jO,ok.WV⟩
section
variable {X:Cx}{af:List (Addr×Obj)}{σ:St}{H:Hp}{s:Shared}{E:Value->Shared->Prop}
theorem Inv.bV (I:Inv X af σ H s)(E:Value->Shared->Prop):Inv (X.bV E) af σ H s:=⟨I.ok.bV E,I.os,I.bare,I.base,I.loc,I.cell,I.free,I.iU,I.pin,I.bF,I.len⟩
theorem Inv.fR (I:Inv (X.bV E) af σ H s):Inv X af σ H s:=⟨I.ok.fR,I.os,I.bare,I.base,I.loc,I.cell,I.free,I.iU,I.pin,I.bF,I.len⟩
theorem SP.fR {D:Ends}{f:Flow}{s':Shared}(h:SP (X.bV E) af D f s'):SP X af D f s':=by
 cases f with
 | next=>obtain ⟨cA,H',I,q⟩:=h;exact ⟨cA,H',I.fR,q⟩
 | brk=>obtain ⟨cA,H',I,q⟩:=h;exact ⟨cA,H',I.fR,q⟩
 | cont=>obtain ⟨cA,H',I,q⟩:=h;exact ⟨cA,H',I.fR,q⟩
 | ret u=>obtain ⟨v,cA,H',I,r,q⟩:=h;exact ⟨v,cA,H',I.fR,r,q⟩
theorem PE.S3 {e:Expr}{t:TE}(h:PE X.S3 e t):PE X e t:=λaf s σ H Q I hw=>
 wpAny_mono (h af s σ H Q (I.bV _) hw) (λ_ _ ⟨v,H',I',r,q⟩=>⟨v,H',I'.fR,r,q⟩) λ_ _ z=>False.elim z
theorem tE.S3 {st:List Stmt}{t:TS}(h:tE X.S3 st t):tE X st t:=λaf s σ H D I hw=>
 wpAny_mono (h af s σ H D (I.bV _) hw) (λ_ _ q=>q.fR) λ_ _ z=>False.elim z
end
section
variable {X:Cx}{st:Stmt}{rest:List Stmt}{t u:TS}{e:Expr}{te:TE}{pos:Pos}
def gj:TS:=λD σ H=>D.nx σ H
def jo (t u:TS):TS:=λD σ H=>t (D.go (u D)) σ H
theorem wQ:tE X [] gj:=λ_ _ σ H _ I h=>wpAny_execs_nil ⟨σ,H,I,h⟩
theorem SN (h1:PS X st t)(h2:tE X rest u):tE X (st::rest) (jo t u):=by
 intro af s σ H D I h;refine wpAny_execs_cons (bG (h1 af s σ H (D.go (u D)) I h) λf s1 q=>?_);cases f with
 | next=>
  obtain ⟨cA,H',I',q⟩:=q;exact h2 af s1 cA H' D I' q
 | ret v=>exact q
 | brk=>exact q
 | cont=>exact q
theorem Vu (h1:PS X st t):tE X [st] t:=by
 intro af s σ H D I h;refine wpAny_execs_cons (bG (h1 af s σ H D I h) λf s1 q=>?_);cases f with
 | next=>exact wpAny_execs_nil q
 | ret v=>exact q
 | brk=>exact q
 | cont=>exact q
theorem Inv.quiet {af:List (Addr×Obj)}{σ:St}{H:Hp}{s:Shared}(I:Inv X af σ H s):interactive X.env=false:=by simp [interactive,I.ok.kind]
def jr (te:TE):TS:=λD σ H=>te σ H λ_ H1=>D.nx σ H1
theorem wv (he:PE X e te)(hs:swapsWith e none pos.line X.env=pure false:=by rfl):PS X (.Expr e pos) (jr te):=by intro af s σ H D I h;exact wpAny_Expr_any (bG (he af s σ H _ I h) λv s1 ⟨x,H1,I1,r1,q1⟩=>⟨σ,H1,I1,q1⟩) I.quiet hs
def tT (te:TE):TS:=λD σ H=>te σ H D.rt
theorem wL (he:PE X e te):PS X (.Return (some e) pos) (tT te):=by intro af s σ H D I h;exact wpAny_Return_some (bG (he af s σ H _ I h) λv s1 ⟨x,H1,I1,r1,q1⟩=>⟨x,σ,H1,I1,r1,q1⟩)
noncomputable def tY (c:TT)(t u:TS):TS:=λD σ H=>c σ H λb H1=>if b=true then t D σ H1 else u D σ H1
theorem wa {c:Expr}{a b:List Stmt}{tc:TT}(hc:PT X c tc)(ha:tE X a t)(hb:tE X b u):PS X (.If c a b pos) (tY tc t u):=by
 intro af s σ H D I h;refine wpAny_If (bG (hc af s σ H _ I h) λd s1 ⟨H1,I1,q1⟩=>?_);cases d with
 | true=>exact ha af s1 σ H1 D I1 q1
 | false=>exact hb af s1 σ H1 D I1 q1
def Xq:TS:=λ_ _ _=>False
theorem fE:PS X st Xq:=λ_ _ _ _ _ _ h=>h.elim
end
abbrev TG:=V->St->Hp->(St->Hp->Prop)->Prop
abbrev UL:=List V->St->Hp->(St->Hp->Prop)->Prop
noncomputable def PG (X:Cx)(target:Expr)(t:TG):Prop:=
 ∀ (af:List (Addr×Obj)) (s:Shared) (σ:St) (H:Hp) (v:V) (u:Value) (Q:St->Hp->Prop),Inv X af σ H s->RelV v u->t v σ H Q ->
  wpAny (model X.prog X.w) X.A (assign target X.env u) (λ_ s'=>∃ cA H',Inv X af cA H' s'/\Q cA H') X.xe s
noncomputable def Zv (X:Cx)(ts:List Expr)(t:UL):Prop:=
 ∀ (af:List (Addr×Obj)) (s:Shared) (σ:St) (H:Hp) (vs:List V) (us:List Value) (Q:St->Hp->Prop),Inv X af σ H s->Vals vs us->t vs σ H Q ->
  wpAny (model X.prog X.w) X.A (assignInOrder ((assignEach ts X.env).map (·.2)) us) (λ_ s'=>∃ cA H',Inv X af cA H' s'/\Q cA H') X.xe s
abbrev Uo:=V->V->V->Hp->(Hp->Prop)->Prop
noncomputable def Y0 (X:Cx)(t:Uo):Prop:=
 ∀ (af:List (Addr×Obj)) (s:Shared) (σ:St) (H:Hp) (o i v:V) (ov iv u:Value) (Q:Hp->Prop),Inv X af σ H s->RelV o ov->RelV i iv->RelV v u->t o i v H Q ->
  wpAny (model X.prog X.w) X.A (setItem ov iv u) (λ_ s'=>∃ H',Inv X af σ H' s'/\Q H') X.xe s
abbrev Zu:=V->V->Hp->VK->Prop
noncomputable def PIp (X:Cx)(op:Operator)(t:Zu):Prop:=
 ∀ (af:List (Addr×Obj)) (s:Shared) (σ:St) (H:Hp) (x y:V) (v u:Value) (Q:VK),Inv X af σ H s->RelV x v->RelV y u->t x y H Q ->
  wpAny (model X.prog X.w) X.A (inplaceOp op v u) (EP X af σ Q) X.xe s
section
variable {X:Cx}{pos:Pos}
def dQ (i:Nat):TG:=λv σ H Q=>Q (σ.set i (some v)) H
theorem wE {i:Nat}{x:Str}(hN:X.N.Nodup)(hi:X.N[i]?=some x)(hx:Q0 X.env.scope x=true)(hf:lU X x=true:=by rfl):PG X (.Name x pos) (dQ i):=by have hx:=mK hx;intro af s σ H v u Q I r h;exact wpAny_assign_Name (jw I hN hi hx r (λs' I'=>⟨_,H,I',h⟩) hf)
def uD:UL:=λvs σ H Q=>vs=[]/\Q σ H
noncomputable def jN (t:TG)(u:UL):UL:=λvs σ H Q=>∃ v r,vs=v::r/\t v σ H fun cA H'=>u r cA H' Q
theorem wW:Zv X [] uD:=by intro af s σ H vs us Q I r h;obtain ⟨e,h⟩:=h;subst e;cases r;exact assignInOrder_nil ⟨σ,H,I,h⟩
theorem wD {e:Expr}{es:List Expr}{t:TG}{u:UL}(h1:PG X e t)(h2:Zv X es u)
  (hs:(assignEach (e::es) X.env).map (·.2)=assign e X.env::(assignEach es X.env).map (·.2):=by rfl):Zv X (e::es) (jN t u):=by
 intro af s σ H vs us Q I r h;obtain ⟨v,vr,e1,h⟩:=h;subst e1;cases r with
 | cons r rr=>
  rw [hs];refine assignInOrder_cons (bG (h1 af s σ H _ _ _ I r h) λ_ s1 ⟨Y8,H1,I1,q1⟩=>?_);exact h2 af s1 Y8 H1 _ _ Q I1 rr q1
noncomputable def rA (K:PySem.W.Frag)(n:Nat)(t:UL):TG:=λv σ H Q=>∃ a xs,v=.ref a/\bS K H a xs/\xs.length=n/\t xs σ H Q
theorem XO {es:List Expr}{k:Nat}{t:UL}{n:Nat}(hc:X.calm=true)(h:Zv X es t)
  (hn:(assignEach es X.env).length=n:=by rfl) (VU:(assignEach es X.env).findIdx? (·.1)=none:=by rfl):PG X (.Tuple es k pos) (rA X.K n t):=by
 intro af s σ H v u Q I r hw;obtain ⟨a,xs,e1,hq,hl,hw⟩:=hw;subst e1;cases r;obtain ⟨aH,rv,ht,hz⟩:=I.tuple hq;refine assign_Tuple_tuple (I.ok.hd hc) ht (by simp [hn,<- hl,rv.length]) VU λh' hx=>?_;have I1:Inv X af σ H { s with heap:=h' }:=I.kept (t':=s.toks) λb o e=>hx b o (zY (Heap.lt_size e)) e;exact h af _ σ H xs _ Q I1 (by simpa using rv) hw
noncomputable def uC (to ti:TE)(t:Uo):TG:=λv σ H Q=>to σ H λo H1=>ti σ H1 λi H2=>t o i v H2 λH3=>Q σ H3
theorem kK {o i:Expr}{to ti:TE}{t:Uo}(ho:PE X o to)(hi:PE X i ti)(hs:Y0 X t)
  (ha:∀ v,assign (.Subscript o i pos) X.env v=(do
   let ov <- holding [v] (eval o X.env)
   let iv <- holding [v,ov] (eval i X.env)
   standAt pos
   holding [v,ov,iv] (setItem ov iv v)
   release [v,ov,iv] []):=by intro _;rfl):PG X (.Subscript o i pos) (uC to ti t):=by
 intro af s σ H v u Q I r h;rw [ha];refine wpAny_bind (wpAny_holding (bG (ho af s σ H _ I h) λov s1 ⟨x,H1,I1,r1,q1⟩=>?_));refine wpAny_bind (wpAny_holding (bG (hi af s1 σ H1 _ I1 q1) λiv s2 ⟨y,H2,I2,r2,q2⟩=>?_));refine wpAny_bind (wpAny_standAt (wpAny_bind (wpAny_holding (bG (hs af s2 σ H2 x y v ov iv u _ I2 r1 r2 r q2) λ_ s3 ⟨H3,I3,q3⟩=>?_))));exact wpAny_release ⟨σ,H3,I3,q3⟩
def nv (te:TE)(g:TG):TS:=λD σ H=>te σ H λx H1=>g x σ H1 D.nx
theorem wu {tg e:Expr}{te:TE}{g:TG}(he:PE X e te)(hg:PG X tg g)(hs:swapsWithSole [tg] e pos.line X.env=pure false:=by rfl)(hw:swappedStores [tg] e X.env=pure none:=by rfl)
  (h1:(assignEach [tg] X.env).map (·.2)=[assign tg X.env]:=by rfl):PS X (.Assign [tg] e pos) (nv te g):=by
 intro af s σ H D I h;refine wpAny_Assign_stores (bG (he af s σ H _ I h) λv s1 ⟨x,H1,I1,r1,q1⟩=>?_) hs hw;rw [h1];exact bG (hg af s1 σ H1 x v _ I1 r1 q1) λ_ s2 q=>q
theorem wI {i:Nat}{x:Str}{e:Expr}{te:TE}{pos':Pos}(hN:X.N.Nodup)(hi:X.N[i]?=some x)(hx:Q0 X.env.scope x=true)(he:PE X e te)(hs:swapsWith e (some (.Name x pos')) pos.line X.env=pure false:=by rfl)(hf:lU X x=true:=by rfl) :
  PS X (.Assign [.Name x pos'] e pos) (nv te (dQ i)):=by
 have hx:=mK hx;intro af s σ H D I h;refine wpAny_Assign_Name (bG (he af s σ H _ I h) λv s1 ⟨y,H1,I1,r1,q1⟩=>?_) hs;exact jw I1 hN hi hx r1 (λs2 I2=>⟨_,H1,I2,q1⟩) hf
noncomputable def ack (i:Nat)(te:TE)(ti:Zu):TS:=λD σ H=>∃ x,σ[i]?=some (some x)/\te σ H λy H1=>ti x y H1 λz H2=>D.nx (σ.set i (some z)) H2
theorem SO {i:Nat}{x:Str}{e:Expr}{te:TE}{op:Operator}{ti:Zu}{pos':Pos}(hN:X.N.Nodup)(hi:X.N[i]?=some x)(hx:Q0 X.env.scope x=true)(he:PE X e te)(ho:PIp X op ti)(hf:lU X x=true:=by rfl) :
  PS X (.AugAssign (.Name x pos') op e pos) (ack i te ti):=by
 have hx:=mK hx;intro af s σ H D I h;obtain ⟨v,e1,h⟩:=h;obtain ⟨m,hn,hl⟩:=I.loc;have vis:Vis X.env.scope x:=by rcases hx with k | k;exact .inl k;exact .inr (.inl k)
 obtain ⟨u,r,l⟩:=hl i x v hi e1 vis;refine wpAny_AugAssign_Name ?_;have go:wpAny (model X.prog X.w) X.A (eval e X.env) (λw kB=>wpAny (model X.prog X.w) X.A (inplaceOp op u w) (λr vz=>wpAny (model X.prog X.w) X.A (storeName X.env x r) (λ_=>SP X af D .next) X.xe vz) X.xe kB) X.xe s:=by
  refine bG (he af s σ H _ I h) λw s1 ⟨y,H1,I1,r1,q1⟩=>?_;refine bG (ho af s1 σ H1 v y u w _ I1 r r1 q1) λz s2 ⟨zv,H2,I2,r2,q2⟩=>?_;exact jw I2 hN hi hx r2 (λs3 I3=>⟨_,H2,I3,q2⟩) hf
 rcases l with ⟨hk,hm⟩ | ⟨hk,c,hc,P9⟩
 ·exact wpAny_loadName_local I.ok.kind hk hn hm go
 ·rcases hk with hk | hk
  ·exact wpAny_loadName_cell I.ok.kind hk hc P9 go
  ·rcases hx with k | k
   ·have:X.env.scope.names.lookup x=some .free:=hk;rw [k] at this;cases this
   ·have:X.env.scope.names.lookup x=some .free:=hk;rw [k] at this;cases this
noncomputable def ju (to ti te:TE)(UW:V->V->Hp->VK->Prop)(tip:Zu)(UQ:Uo):TS:=λD σ H=>to σ H λo H1=>ti σ H1 λi H2=>UW o i H2 λx H3=>te σ H3 λy H4=>tip x y H4 λz H5=>UQ o i z H5 λH6=>D.nx σ H6
noncomputable def abc (X:Cx)(t:V->V->Hp->VK->Prop):Prop:=
 ∀ (af:List (Addr×Obj)) (s:Shared) (σ:St) (H:Hp) (o i:V) (ov iv:Value) (Q:VK),Inv X af σ H s->RelV o ov->RelV i iv->t o i H Q ->
  wpAny (model X.prog X.w) X.A (getItem ov iv) (EP X af σ Q) X.xe s
theorem ug {o i e:Expr}{to ti te:TE}{UW:V->V->Hp->VK->Prop}{tip:Zu}{UQ:Uo}{op:Operator}{UT:Pos}(ho:PE X o to)(hi:PE X i ti)(hg:abc X UW)(he:PE X e te)(hp:PIp X op tip)(hs:Y0 X UQ)
  (ha:∀ ov iv new,augStore i ov iv new=(do holding [new,ov,iv] (setItem ov iv new);release [new,ov,iv] [];pure .next):=by intros;rfl):PS X (.AugAssign (.Subscript o i UT) op e pos) (ju to ti te UW tip UQ):=by
 intro af s σ H D I h;refine wpAny_AugAssign_SubscriptAny (bG (ho af s σ H _ I h) λov s1 z708=>?_) ha;obtain ⟨x1,H1,I1,r1,q1⟩:=z708;refine bG (hi af s1 σ H1 _ I1 q1) λiv s2 z709=>?_;obtain ⟨x2,H2,I2,r2,q2⟩:=z709;refine bG (hg af s2 σ H2 x1 x2 ov iv _ I2 r1 r2 q2) λold s3 z710=>?_;obtain ⟨x3,H3,I3,r3,q3⟩:=z710;refine bG (he af s3 σ H3 _ I3 q3) λv s4 z711=>?_;obtain ⟨x4,H4,I4,r4,q4⟩:=z711;refine bG (hp af s4 σ H4 x3 x4 old v _ I4 r3 r4 q4) λnew s5 z712=>?_;obtain ⟨x5,H5,I5,r5,q5⟩:=z712;exact bG (hs af s5 σ H5 x1 x2 x5 ov iv new _ I5 r1 r2 r5 q5) λ_ s6 z713=>by obtain ⟨H6,I6,q6⟩:=z713;exact ⟨σ,H6,I6,q6⟩
noncomputable def UA (f:Int->Int->Int):Zu:=λx y H Q=>∃ i j,x=.int i/\y=.int j/\Q (.int (f i j)) H
theorem uw:PIp X .Add (UA λi j=>i + j):=by intro af s σ H x y v u Q I r1 r2 h;obtain ⟨i,j,e1,e2,q⟩:=h;subst e1;subst e2;obtain ⟨t,rfl⟩:=r1;obtain ⟨t',rfl⟩:=r2;exact iadd_int ⟨.int _,H,I.tok _,⟨_,rfl⟩,q⟩
theorem Yn:PIp X .Sub (UA λi j=>i - j):=by intro af s σ H x y v u Q I r1 r2 h;obtain ⟨i,j,e1,e2,q⟩:=h;subst e1;subst e2;obtain ⟨t,rfl⟩:=r1;obtain ⟨t',rfl⟩:=r2;exact isub_int ⟨.int _,H,I.tok _,⟨_,rfl⟩,q⟩
end
section
variable {X:Cx}{pos:Pos}
noncomputable def R8 (c:TT)(tb:TS):TS:=λD σ H=>∃ W:Nat->St->Hp->Prop,(∃ m,W m σ H)/\∀ m σ H,W m σ H ->
 c σ H λb H1=>if b=true then ∃ N:St->Hp->Prop,(∀ cA H',N cA H'->∃ m',m' < m/\W m' cA H')/\tb (D.lp N) σ H1 else D.nx σ H1
theorem gP {c:Expr}{body:List Stmt}{tc:TT}{tb:TS}(hp:PassesOwn (model X.prog X.w) X.A X.env X.xe)(hc:PT X c tc)(hb:tE X body tb):PS X (.While c body [] pos) (R8 tc tb):=by
 intro af s σ H D I h;obtain ⟨W,⟨m0,w0⟩,turn⟩:=h;refine wpAny_While (codeAny_whileLoop (λn s'=>∃ cA H',Inv X af cA H' s'/\W n cA H') ?_ m0 ⟨σ,H,I,w0⟩);rintro n s1 ⟨Y8,H1,I1,w1⟩;refine wpAny_passesOwn hp (bG (hc af s1 Y8 H1 _ I1 (turn n Y8 H1 w1)) λb s2 ⟨H2,I2,q2⟩=>?_);cases b with
 | true=>
  obtain ⟨N,hN,q2⟩:=q2;rw [if_pos rfl];refine wpAny_passesOwn hp (bG (hb af s2 Y8 H2 _ I2 q2) λf s3 q3=>?_);cases f with
  | next=>
   obtain ⟨RV,H3,I3,n3⟩:=q3;obtain ⟨m',hm,w3⟩:=hN RV H3 n3;exact ⟨m',hm,RV,H3,I3,w3⟩
  | cont=>
   obtain ⟨RV,H3,I3,n3⟩:=q3;obtain ⟨m',hm,w3⟩:=hN RV H3 n3;exact ⟨m',hm,RV,H3,I3,w3⟩
  | brk=>exact q3
  | ret v=>exact q3
 | false=>
  rw [if_neg zP];exact wpAny_execs_nil ⟨Y8,H2,I2,q2⟩
end
structure It where
 go:Nat->Hp->Prop
 tG:Nat->Hp->V->Hp->Prop
 stop:Nat->Hp->Prop
noncomputable def rF (X:Cx)(af:List (Addr×Obj))(H:Hp)(b:Addr):Prop:=
 H b=none/\b≠X.env.locals/\b ∉ X.fs/\(b∈X.ex\/X.dh.heap.objs.size<=b)/\(∀ x c,X.env.cells.lookup x=some c->c≠b)/\∀ p∈X.pn++af,p.1≠b
theorem Inv.Rm {X:Cx}{af:List (Addr×Obj)}{σ:St}{H H':Hp}{s:Shared}{b:Addr}(I:Inv X af σ H s)(hb:s.heap.objs.size<=b)(hn:H' b=none):rF X af H' b:=by
 refine ⟨hn,yb (zT I.lt hb),I.aaa hb,.inr (yC I.sz hb),λx c e z=>?_,λp hp z=>?_⟩
 ·obtain ⟨v,q⟩:=I.cell x c e;exact absurd (zT q.lt (by rw [z];exact hb)) (yS _)
 ·exact absurd (zT (Heap.lt_size (I.pin p hp).1) (by rw [z];exact hb)) (yS _)
structure Turn (P:Program) (w:World) (K:PySem.W.Frag) (tg:Expr) (J:It) (fp:List Addr) (it:Addr) (tn:Nat->Heap->Prop):Prop where
 mem:it∈fp
 obj:∀ i h,tn i h->∀ b∈fp,∃ o,h.get? b=some o/\∀ v,o.data≠.cell v
 keep:∀ i h h',tn i h->(∀ b∈fp,∀ o,h.get? b=some o->h'.get? b=some o)->tn i h'
 item:∀ (X:Cx),X.prog=P->X.w=w->X.K=K->X.calm=true->∀ (i:Nat) (af:List (Addr×Obj)) (s:Shared) (σ:St) (H:Hp) (E:Value->Shared->Prop),Inv X af σ H s->(∀ b∈fp,rF X af H b)->tn i s.heap->J.go i H ->
  wpAny (model P w) X.A (pyNext (.ref it)) (λr s1=>∃ u,r=some u /\
   wpAny (model P w) X.A (letOwnedTupleGo tg (.ref it) u) (λ_ s2=>∃ x H',Inv X af σ H' s2/\RelV x u/\J.tG i H x H'/\tn (i + 1) s2.heap/\∀ b∈fp,H' b=none) E s1) E s
 done:∀ (X:Cx),X.prog=P->X.w=w->X.K=K->X.calm=true->∀ (i:Nat) (af:List (Addr×Obj)) (s:Shared) (σ:St) (H:Hp) (E:Value->Shared->Prop),Inv X af σ H s->(∀ b∈fp,rF X af H b)->tn i s.heap->J.stop i H ->
  wpAny (model P w) X.A (pyNext (.ref it)) (λr s1=>r=none/\Inv X af σ H s1) E s
 self:∀ (A:Around) (i:Nat) (s:Shared) (Q:Value->Shared->Prop) (E:Value->Shared->Prop),tn i s.heap->Q (.ref it) s->wpAny (model P w) A (pyIter (.ref it)) Q E s
abbrev TI:=St->Hp->(It->Hp->Prop)->Prop
noncomputable def PIE (X:Cx)(af:List (Addr×Obj))(σ:St)(tg:Expr)(R:It->Hp->Prop)(itv:Value)(s2:Shared):Prop:=
 ∃ (it:Addr) (fp:List Addr) (tn:Nat->Heap->Prop) (J:It) (H':Hp),itv=.ref it/\Inv X af σ H' s2/\Turn X.prog X.w X.K tg J fp it tn/\tn 0 s2.heap/\(∀ b∈fp,rF X af H' b)/\R J H'
noncomputable def PI (X:Cx)(tg iter:Expr)(wi:TI):Prop:=
 ∀ (af:List (Addr×Obj)) (s:Shared) (σ:St) (H:Hp) (R:It->Hp->Prop),Inv X af σ H s->wi σ H R ->
  wpAny (model X.prog X.w) X.A (eval iter X.env) (λv s1=>wpAny (model X.prog X.w) X.A (pyIter v) (PIE X af σ tg R) X.xe s1) X.xe s
theorem TZ {M:Model}{A:Around}{E:Value->Shared->Prop}{s:Shared}{tg:Expr}{it:Addr}{u:Value}{o:Obj}{n:String}{vs:Array Value}{Q:Unit->Shared->Prop}(ho:s.heap.get? it=some o)(hc:o.cls=.type n)(hd:o.data=.fields vs)
    (hn:["enumerate", "zip", "dict_itemiterator", "dict_reverseitemiterator", "odict_iterator", "itertools.zip_longest", "itertools.pairwise"].contains n=false) (hQ:Q () s):wpAny M A (letOwnedTupleGo tg (.ref it) u) Q E s:=by
  unfold letOwnedTupleGo;cases tg <;> first
    | exact wpAny_pure hQ
    | (cases u <;> first
        | exact wpAny_pure hQ
        | (refine wpAny_bind (wpAny_load ho ?_)
           rw [hc,hd];show wpAny M A (if (["enumerate", "zip", "dict_itemiterator", "dict_reverseitemiterator", "odict_iterator", "itertools.zip_longest", "itertools.pairwise"].contains n && vs[0]? == some (rawInt _))=true then _ else _) Q E s;rw [if_neg (by intro h;rw [hn,yx] at h;cases h)];exact wpAny_pure hQ))
noncomputable def RE (K:PySem.W.Frag)(a:Addr):It:=
 ⟨λi H=>∃ xs x,aU K H a xs/\xs[i]?=some x,λi H x H'=>H'=H/\∀ xs,aU K H a xs->xs[i]?=some x,λi H=>∃ xs,aU K H a xs/\xs.length<=i⟩
noncomputable def Wu (K:PySem.W.Frag)(a:Addr):It:=
 ⟨λi H=>∃ xs x,bS K H a xs/\xs[i]?=some x,λi H x H'=>H'=H/\∀ xs,bS K H a xs->xs[i]?=some x,λi H=>∃ xs,bS K H a xs/\xs.length<=i⟩
noncomputable def Pb (lo:Int)(n:Nat):It:=⟨λi _=>i < n,λi H x H'=>H'=H/\x=.int (lo + i),λi _=>n<=i⟩
theorem Qp {P:Program}{w:World}{K:PySem.W.Frag}{tg:Expr}(a it:Addr):Turn P w K tg (RE K a) [it] it (λi h=>h.IsListIter it a i) where
 mem:=by simp
 obj:=λi h st b hb=>by
  have e:b=it:=by simpa using hb
  subst e;obtain ⟨o,e,c,d⟩:=st;exact ⟨o,e,λv z=>by rw [d] at z;cases z⟩
 keep:=λi h h' st k=>st.at λo e=>k it (by simp) o e
 item:=by
  intro X hP hw hK hc i af s σ H E I hf st hg;subst hP hw hK;obtain ⟨xs,x,hq,hx⟩:=hg;obtain ⟨aH,rv,p,hz⟩:=I.list hq;obtain ⟨u,hu,ru⟩:=rv.get hx;obtain ⟨f0,f1,f2,f3,f4,f5⟩:=hf it (by simp);refine wpAny_pyNext_list_item st p.isList (x:=u) (by simpa using hu) λh' Po sb=>?_;have I1:Inv X af σ H { s with heap:=h' }:=I.turned (t':=s.toks) (λb o hb e=>(sb.2 b hb).trans e) f0 f1 f3 f4 f5;obtain ⟨o,e,c,d⟩:=id Po;exact ⟨u,rfl,TZ (s:={ s with heap:=h' }) e c d (by decide) ⟨x,H,I1,ru,⟨rfl,λys hy=>by rw [I.Na hy hq];exact hx⟩,Po,λb hb=>(hf b hb).1⟩⟩
 done:=by
  intro X hP hw hK hc i af s σ H E I hf st hg;subst hP hw hK;obtain ⟨xs,hq,hx⟩:=hg;obtain ⟨aH,rv,p,hz⟩:=I.list hq;obtain ⟨f0,f1,f2,f3,f4,f5⟩:=hf it (by simp);have hl:=rv.length;exact wpAny_pyNext_list_end (I.ok.hd hc) st p.isList (by simp;omega) λh' eb=>⟨rfl,I.turned (t':=s.toks) (λb o hb e=>eb b o hb e) f0 f1 f3 f4 f5⟩
 self:=λ_ _ _ _ _ st h=>wpAny_pyIter_listiter st h
theorem Oa {P:Program}{w:World}{K:PySem.W.Frag}{tg:Expr}(a it:Addr):Turn P w K tg (Wu K a) [it] it (λi h=>h.IsTupleIter it a i) where
 mem:=by simp
 obj:=λi h st b hb=>by
  have e:b=it:=by simpa using hb
  subst e;obtain ⟨o,e,c,d⟩:=st;exact ⟨o,e,λv z=>by rw [d] at z;cases z⟩
 keep:=λi h h' st k=>st.at λo e=>k it (by simp) o e
 item:=by
  intro X hP hw hK hc i af s σ H E I hf st hg;subst hP hw hK;obtain ⟨xs,x,hq,hx⟩:=hg;obtain ⟨aH,rv,p,hz⟩:=I.tuple hq;obtain ⟨u,hu,ru⟩:=rv.get hx;obtain ⟨f0,f1,f2,f3,f4,f5⟩:=hf it (by simp);refine wpAny_pyNext_tuple_item st (show s.heap.IsTuple a aH.toArray from p) (x:=u) (by simpa using hu) λh' Po sb=>?_;have I1:Inv X af σ H { s with heap:=h' }:=I.turned (t':=s.toks) (λb o hb e=>(sb.2 b hb).trans e) f0 f1 f3 f4 f5;obtain ⟨o,e,c,d⟩:=id Po;exact ⟨u,rfl,TZ (s:={ s with heap:=h' }) e c d (by decide) ⟨x,H,I1,ru,⟨rfl,λys hy=>by rw [I.rR hy hq];exact hx⟩,Po,λb hb=>(hf b hb).1⟩⟩
 done:=by
  intro X hP hw hK hc i af s σ H E I hf st hg;subst hP hw hK;obtain ⟨xs,hq,hx⟩:=hg;obtain ⟨aH,rv,p,hz⟩:=I.tuple hq;obtain ⟨f0,f1,f2,f3,f4,f5⟩:=hf it (by simp);have hl:=rv.length;exact wpAny_pyNext_tuple_end (I.ok.hd hc) st (show s.heap.IsTuple a aH.toArray from p) (by simp;omega) λh' eb=>⟨rfl,I.turned (t':=s.toks) (λb o hb e=>eb b o hb e) f0 f1 f3 f4 f5⟩
 self:=λ_ _ _ _ _ st h=>wpAny_pyIter_tupleiter st h
theorem Ob {P:Program}{w:World}{K:PySem.W.Frag}{tg:Expr}(it:Addr)(lo:Int)(n:Nat):Turn P w K tg (Pb lo n) [it] it (λi h=>IsRangeIter h it (lo + (i:Nat) * 1) ((n:Int) - (i:Nat)) 1) where
 mem:=by simp
 obj:=λi h st b hb=>by
  have e:b=it:=by simpa using hb
  subst e;exact ⟨_,st,λv z=>by
   have z':Data.fields _=Data.cell v:=z;cases z'⟩
 keep:=λi h h' st k=>k it (by simp) _ st
 item:=by
  intro X hP hw hK hc i af s σ H E I hf st hg;subst hP hw hK;obtain ⟨f0,f1,f2,f3,f4,f5⟩:=hf it (by simp);have W:=Walks.range (prog:=X.prog) (w:=X.w) (I.ok.hd hc) it lo 1 n;refine W.item i s _ _ hg st λv h' tk hv Po kk=>?_;obtain ⟨t,rfl⟩:=hv;have I1:Inv X af σ H { s with heap:=h',toks:=tk }:=I.turned (λb o hb e=>kk b o (by simpa using hb) e) f0 f1 f3 f4 f5;refine ⟨_,rfl,TZ (s:={ s with heap:=h',toks:=tk }) (n := "range_iterator") Po rfl rfl (by decide) ⟨.int (lo + i),H,I1,⟨t,?_⟩,⟨rfl,rfl⟩,Po,λb hb=>(hf b hb).1⟩⟩;rw [Int.mul_one]
 done:=by
  intro X hP hw hK hc i af s σ H E I hf st hg;subst hP hw hK;obtain ⟨f0,f1,f2,f3,f4,f5⟩:=hf it (by simp);exact wpAny_pyNext_range_end (I.ok.hd hc) st (by have:n<=i:=hg;omega) λh' eb=>⟨rfl,I.turned (t':=s.toks) (λb o hb e=>eb b o hb e) f0 f1 f3 f4 f5⟩
 self:=λ_ _ _ _ _ st h=>wpAny_pyIter_rangeiter st h
section
variable {X:Cx}{tg:Expr}
noncomputable def WM (K:PySem.W.Frag)(tl:TE):TI:=fun σ H R=>tl σ H λx H1=>∃ a,x=.ref a/\(∃ xs,aU K H1 a xs)/\R (RE K a) H1
noncomputable def aal (K:PySem.W.Frag)(tl:TE):TI:=fun σ H R=>tl σ H λx H1=>∃ a,x=.ref a/\(∃ xs,bS K H1 a xs)/\R (Wu K a) H1
theorem Vw {l:Expr}{tl:TE}(hl:PE X l tl):PI X tg l (WM X.K tl):=by
 intro af s σ H R I h;refine bG (hl af s σ H _ I h) λv s1 ⟨x,H1,I1,r1,q1⟩=>?_;obtain ⟨a,e,⟨xs,hq⟩,q⟩:=q1;subst e;cases r1;obtain ⟨aH,rv,p,hz⟩:=I1.list hq;refine wpAny_pyIter_list p.isList ?_;refine ⟨s1.heap.objs.size,[s1.heap.objs.size],_,_,H1,rfl,I1.kept (t':=s1.toks) λb o e=>Heap.get?_push_of_some _ e,Qp a _,⟨_,Heap.get?_push_size _ rfl,rfl,rfl⟩,λb hb=>?_,q⟩;have e:b=s1.heap.objs.size:=by simpa using hb
 subst e;exact I1.Rm (zD _) (I1.bF.fresh (zD _))
theorem XN {l:Expr}{tl:TE}(hl:PE X l tl):PI X tg l (aal X.K tl):=by
 intro af s σ H R I h;refine bG (hl af s σ H _ I h) λv s1 ⟨x,H1,I1,r1,q1⟩=>?_;obtain ⟨a,e,⟨xs,hq⟩,q⟩:=q1;subst e;cases r1;obtain ⟨aH,rv,p,hz⟩:=I1.tuple hq;refine wpAny_pyIter_tuple (show s1.heap.IsTuple a aH.toArray from p) ?_;refine ⟨s1.heap.objs.size,[s1.heap.objs.size],_,_,H1,rfl,I1.kept (t':=s1.toks) λb o e=>Heap.get?_push_of_some _ e,Oa a _,⟨_,Heap.get?_push_size _ rfl,rfl,rfl⟩,λb hb=>?_,q⟩;have e:b=s1.heap.objs.size:=by simpa using hb
 subst e;exact I1.Rm (zD _) (I1.bF.fresh (zD _))
theorem vH {af:List (Addr×Obj)}{σ:St}{H:Hp}{s:Shared}{R:It->Hp->Prop}{E:Value->Shared->Prop}{lo hi:Int}{t u v:Tok}{tk:Nat}(I:Inv X af σ H s)(h1:-(2 ^ 62)<=lo)(h2:lo < 2 ^ 62)(h3:-(2 ^ 62)<=hi)(h4:hi < 2 ^ 62)
  (q:R (Pb lo (hi - lo).toNat) H):wpAny (model X.prog X.w) X.A (pyIter (.ref s.heap.objs.size)) (PIE X af σ tg R) E { s with heap:=s.heap.push { cls:=.type "range", data:=.fields #[.int lo t,.int hi u,.int 1 v] },toks:=tk }:=by
 refine wpAny_pyIter_range (IsRange.new ..) (small_one h1 h2 h3 h4) ?_;have I1:Inv X af σ H { s with heap:=s.heap.push { cls:=.type "range", data:=.fields #[.int lo t,.int hi u,.int 1 v] },toks:=tk }:=I.kept λb o e=>Heap.get?_push_of_some _ e;refine ⟨(s.heap.push { cls:=.type "range", data:=.fields #[.int lo t,.int hi u,.int 1 v] }).objs.size,[(s.heap.push { cls:=.type "range", data:=.fields #[.int lo t,.int hi u,.int 1 v] }).objs.size],_,_,H,rfl,
  I1.kept (t':=tk) λb o e=>Heap.get?_push_of_some _ e,Ob _ lo (hi - lo).toNat,?_,λb hb=>?_,q⟩
 ·have e1:lo + ((0:Nat):Int) * 1=lo:=by simp
  have e2:(((hi - lo).toNat:Nat):Int) - ((0:Nat):Int)=Builtin.Range.rangeSize lo hi 1:=by rw [rangeSize_one];split <;> omega
  show IsRangeIter _ _ (lo + ((0:Nat):Int) * 1) ((((hi - lo).toNat:Nat):Int) - ((0:Nat):Int)) 1;rw [e1,e2];exact Heap.get?_push_size _ rfl
 ·have e:b=(s.heap.push { cls:=.type "range", data:=.fields #[.int lo t,.int hi u,.int 1 v] }).objs.size:=by simpa using hb
  subst e;exact I1.Rm (zD _) (I1.bF.fresh (zD _))
noncomputable def aan (ta:TA):TI:=fun σ H R=>ta σ H λvs H1=>∃ j:Int,vs=[.int j]/\-(2 ^ 62)<=j/\j < 2 ^ 62/\R (Pb 0 j.toNat) H1
noncomputable def aam (ta:TA):TI:=fun σ H R=>ta σ H λvs H1=>∃ i j:Int,vs=[.int i,.int j]/\(-(2 ^ 62)<=i/\i < 2 ^ 62/\-(2 ^ 62)<=j/\j < 2 ^ 62)/\R (Pb i (j - i).toNat) H1
theorem fG {a:Expr}{ta:TA}{p pos:Pos}(hg:Gl X "range")(hm:X.mg "range" = none)(ha:PA X [a] ta)(hs:starEach [a] X.env=[(false,eval a X.env)]:=by rfl):PI X tg (.Call (.Name "range" p) [a] [] pos) (aan ta):=by
 intro af s σ H R I h;refine Call_ (fY I hg hm boot_range (yf (bG (ha pos af s σ H _ I h) λus s1 ⟨vs,H1,I1,r1,q1⟩=>?_) hs rfl));obtain ⟨j,e,q1,q2,q⟩:=q1;subst e;cases r1 with
 | cons r rr=>
  cases rr;obtain ⟨t,rfl⟩:=r;exact call_range_1 (vH I1 (by omega) (by omega) q1 q2 (by simpa using q))
theorem sf {a b:Expr}{ta:TA}{p pos:Pos}(hg:Gl X "range")(hm:X.mg "range" = none)(ha:PA X [a,b] ta)(hs:starEach [a,b] X.env=[(false,eval a X.env),(false,eval b X.env)]:=by rfl)(N5:starEach [b] X.env=[(false,eval b X.env)]:=by rfl) :
  PI X tg (.Call (.Name "range" p) [a,b] [] pos) (aam ta):=by
 intro af s σ H R I h;refine Call_ (fY I hg hm boot_range (yf (bG (ha pos af s σ H _ I h) λus s1 ⟨vs,H1,I1,r1,q1⟩=>?_) (by rw [hs,N5]) (by rw [N5];rfl)));obtain ⟨i,j,e,⟨q1,q2,q3,q4⟩,q⟩:=q1;subst e;cases r1 with
 | cons r rr=>
  cases rr with
  | cons r' rr=>
   cases rr;obtain ⟨t,rfl⟩:=r;obtain ⟨t',rfl⟩:=r';exact call_range_2 (vH I1 q1 q2 q3 q4 q)
noncomputable def aci (wi:TI)(g:TG)(tb:TS):TS:=λD σ H=>wi σ H λJ H1=>∃ W:Nat->Nat->St->Hp->Prop,(∃ m,W 0 m σ H1)/\∀ i m σ H,W i m σ H ->
 (J.stop i H/\D.nx σ H)\/(J.go i H/\∃ N:St->Hp->Prop,(∀ cA H',N cA H'->∃ m',m' < m/\W (i + 1) m' cA H')/\∀ x H',J.tG i H x H'->g x σ H' fun pR H2=>tb (D.lp N) pR H2)
noncomputable def kJ (fp:List Addr)(h:Heap):List (Addr×Obj):=fp.filterMap λb=>(h.get? b).map λo=>(b,o)
theorem ql {fp:List Addr}{h:Heap}{b:Addr}{o:Obj}(hb:b∈fp)(e:h.get? b=some o):(b,o)∈kJ fp h:=yw.mpr ⟨b,hb,by rw [e];rfl⟩
theorem QL {fp:List Addr}{h:Heap}{p:Addr×Obj}(hp:p∈kJ fp h):p.1∈fp/\h.get? p.1=some p.2:=by
 obtain ⟨b,hb,e⟩:=yw.mp hp;cases q:h.get? b with
 | none=>rw [q] at e;cases e
 | some o=>
  rw [q] at e;have e':(b,o)=p:=Option.some.inj e;subst e';exact ⟨hb,q⟩
theorem Inv.pinned {af:List (Addr×Obj)}{σ:St}{H:Hp}{s:Shared}{fp:List Addr}(I:Inv X af σ H s)(hf:∀ b∈fp,rF X af H b)(ho:∀ b∈fp,∃ o,s.heap.get? b=some o/\∀ v,o.data≠.cell v):Inv X (af++kJ fp s.heap) σ H s:=
 I.cV λp hp=>(zW.mp hp).elim (λz=>I.pin p (zQ _ z)) λz=>by
  obtain ⟨hb,e⟩:=QL z;obtain ⟨f0,f1,f2,_⟩:=hf p.1 hb;obtain ⟨o,e',d⟩:=ho p.1 hb;rw [e] at e';cases e';exact ⟨e,f0,f1,f2,d⟩
theorem Inv.fz {af pl:List (Addr×Obj)}{σ:St}{H:Hp}{s:Shared}(I:Inv X (af++pl) σ H s):Inv X af σ H s:=I.cV λp hp=>I.pin p (zQ _ (z4 _ hp))
theorem qG {iter:Expr}{body:List Stmt}{wi:TI}{g:TG}{tb:TS}{pos:Pos}(hp:PassesOwn (model X.prog X.w) X.A X.env X.xe)(hc:X.calm=true)(hi:PI X tg iter wi)(hg:PG X tg g)(hb:tE X body tb)
  (hs:∀ x,foldedSetIterable iter X.env x=pure x:=by intro _;rfl):PS X (.For tg iter body [] pos) (aci wi g tb):=by
 intro af s σ H D I h;refine wpAny_For (bG (hi af s σ H _ I h) λv s1 h1=>bG h1 λitv s2 h2=>?_) hs;obtain ⟨it,fp,tn,J,H2,e,I2,T,vc,f2,W,⟨m0,w0⟩,turn⟩:=h2;subst e
 -- af1 stays true of Wx oF objects through Wx loop
 have ny:∀ {H':Hp},(∀ b∈fp,H' b=none)->∀ b∈fp,rF X af H' b:=λhn b hb=>⟨hn b hb,(f2 b hb).2⟩;refine codeAny_forLoop_any (λn s'=>∃ i cA H',Inv X af cA H' s'/\tn i s'.heap/\(∀ b∈fp,H' b=none)/\W i n cA H') ?_ m0 ⟨0,σ,H2,I2,vc,λb hb=>(f2 b hb).1,w0⟩;rintro n s3 ⟨i,RV,H3,I3,ZN,fr3,w3⟩;rcases turn i n RV H3 w3 with ⟨stop,qn⟩ | ⟨go,N,hN,step⟩
 ·refine wpAny_passesOwn hp (bG (T.done X rfl rfl rfl hc i af s3 RV H3 X.xe I3 (ny fr3) ZN stop) λr s4 ⟨hr,I4⟩=>?_);subst hr;exact wpAny_execs_nil ⟨RV,H3,I4,qn⟩
 ·refine wpAny_passesOwn hp (bG (T.item X rfl rfl rfl hc i af s3 RV H3 X.xe I3 (ny fr3) ZN go) λr s4 ⟨u,hr,h4⟩=>?_);subst hr;refine wpAny_passesOwn hp (bG h4 λ_ s5 ⟨x,H5,I5,r5,y5,gF,YJ⟩=>?_);have I5':=I5.pinned (ny YJ) (T.obj _ _ gF);refine wpAny_passesOwn hp (bG (hg _ s5 RV H5 x u _ I5' r5 (step x H5 y5)) λ_ s6 ⟨σ6,H6,I6,q6⟩=>?_);refine wpAny_passesOwn hp (bG (hb _ s6 σ6 H6 _ I6 q6) λf s7 q7=>?_);have again:∀ {RU:St} {H7:Hp},Inv X (af++kJ fp s5.heap) RU H7 s7->N RU H7->∃ m,m < n/\∃ i cA H',Inv X af cA H' s7/\tn i s7.heap/\(∀ b∈fp,H' b=none)/\W i m cA H':=λ{RU H7} I7 n7=>by
   obtain ⟨m',hm,w7⟩:=hN RU H7 n7;refine ⟨m',hm,i + 1,RU,H7,I7.fz,T.keep _ _ _ gF λb hb o e=>(I7.pin (b,o) (zQ _ (zQ _ (ql hb e)))).1,λb hb=>?_,w7⟩;obtain ⟨o,e,d⟩:=T.obj _ _ gF b hb;exact (I7.pin (b,o) (zQ _ (zQ _ (ql hb e)))).2.1
  cases f with
  | next=>obtain ⟨RU,H7,I7,n7⟩:=q7;exact again I7 n7
  | cont=>obtain ⟨RU,H7,I7,n7⟩:=q7;exact again I7 n7
  | brk=>obtain ⟨RU,H7,I7,q7⟩:=q7;exact ⟨RU,H7,I7.fz,q7⟩
  | ret v=>obtain ⟨x7,RU,H7,I7,r7,q7⟩:=q7;exact ⟨x7,RU,H7,I7.fz,r7,q7⟩
end
theorem qM {K:PySem.W.Frag}{a:Addr}{xs:List V}{g:TG}{tb:TS}{D:Ends}{σ:St}{H:Hp}(Pv:Nat->St->Hp->Prop)(h0:Pv 0 σ H)(hl:∀ i σ H,i<=xs.length->Pv i σ H->aU K H a xs)
  (hs:∀ i x σ H,xs[i]?=some x->Pv i σ H->g x σ H fun pR H2=>tb (D.lp (Pv (i + 1))) pR H2) (hd:∀ σ H,Pv xs.length σ H->D.nx σ H) :
  ∃ W:Nat->Nat->St->Hp->Prop,(∃ m,W 0 m σ H)/\∀ i m σ H,W i m σ H ->
   ((RE K a).stop i H/\D.nx σ H)\/((RE K a).go i H/\∃ N:St->Hp->Prop,(∀ cA H',N cA H'->∃ m',m' < m/\W (i + 1) m' cA H')/\∀ x H',(RE K a).tG i H x H'->g x σ H' fun pR H2=>tb (D.lp N) pR H2):=by
 refine ⟨λi m σ H=>m=xs.length - i/\i<=xs.length/\Pv i σ H,⟨xs.length,by simp,za _,h0⟩,?_⟩;rintro i m σ H ⟨rfl,hi,p⟩;have q:=hl i σ H hi p;by_cases c8:i < xs.length
 ·refine .inr ⟨⟨xs,xs[i],q,by simp [c8]⟩,Pv (i + 1),fun cA H' p'=>⟨xs.length - (i + 1),by omega,rfl,c8,p'⟩,λx H' y=>?_⟩;obtain ⟨e,y⟩:=y;subst e;exact hs i x σ _ (y xs q) p
 ·have e:i=xs.length:=by omega
  subst e;exact .inl ⟨⟨xs,q,zD _⟩,hd σ H p⟩
theorem Wd {K:PySem.W.Frag}{a:Addr}{xs:List V}{g:TG}{tb:TS}{D:Ends}{σ:St}{H:Hp}(Pv:Nat->St->Hp->Prop)(h0:Pv 0 σ H)(hl:∀ i σ H,i<=xs.length->Pv i σ H->bS K H a xs)
  (hs:∀ i x σ H,xs[i]?=some x->Pv i σ H->g x σ H fun pR H2=>tb (D.lp (Pv (i + 1))) pR H2) (hd:∀ σ H,Pv xs.length σ H->D.nx σ H) :
  ∃ W:Nat->Nat->St->Hp->Prop,(∃ m,W 0 m σ H)/\∀ i m σ H,W i m σ H ->
   ((Wu K a).stop i H/\D.nx σ H)\/((Wu K a).go i H/\∃ N:St->Hp->Prop,(∀ cA H',N cA H'->∃ m',m' < m/\W (i + 1) m' cA H')/\∀ x H',(Wu K a).tG i H x H'->g x σ H' fun pR H2=>tb (D.lp N) pR H2):=by
 refine ⟨λi m σ H=>m=xs.length - i/\i<=xs.length/\Pv i σ H,⟨xs.length,by simp,za _,h0⟩,?_⟩;rintro i m σ H ⟨rfl,hi,p⟩;have q:=hl i σ H hi p;by_cases c8:i < xs.length
 ·refine .inr ⟨⟨xs,xs[i],q,by simp [c8]⟩,Pv (i + 1),fun cA H' p'=>⟨xs.length - (i + 1),by omega,rfl,c8,p'⟩,λx H' y=>?_⟩;obtain ⟨e,y⟩:=y;subst e;exact hs i x σ _ (y xs q) p
 ·have e:i=xs.length:=by omega
  subst e;exact .inl ⟨⟨xs,q,zD _⟩,hd σ H p⟩
theorem fM {lo:Int}{n:Nat}{g:TG}{tb:TS}{D:Ends}{σ:St}{H:Hp}(Pv:Nat->St->Hp->Prop)(h0:Pv 0 σ H)
  (hs:∀ i σ H,i < n->Pv i σ H->g (.int (lo + i)) σ H fun pR H2=>tb (D.lp (Pv (i + 1))) pR H2) (hd:∀ σ H,Pv n σ H->D.nx σ H) :
  ∃ W:Nat->Nat->St->Hp->Prop,(∃ m,W 0 m σ H)/\∀ i m σ H,W i m σ H ->
   ((Pb lo n).stop i H/\D.nx σ H)\/((Pb lo n).go i H/\∃ N:St->Hp->Prop,(∀ cA H',N cA H'->∃ m',m' < m/\W (i + 1) m' cA H')/\∀ x H',(Pb lo n).tG i H x H'->g x σ H' fun pR H2=>tb (D.lp N) pR H2):=by
 refine ⟨λi m σ H=>m=n - i/\i<=n/\Pv i σ H,⟨n,by simp,za _,h0⟩,?_⟩;rintro i m σ H ⟨rfl,hi,p⟩;by_cases c8:i < n
 ·refine .inr ⟨c8,Pv (i + 1),fun cA H' p'=>⟨n - (i + 1),by omega,rfl,c8,p'⟩,λx H' y=>?_⟩;obtain ⟨e,y⟩:=y;subst e y;exact hs i σ _ c8 p
 ·have e:i=n:=by omega
  subst e;exact .inl ⟨zD _,hd σ H p⟩
theorem vf {c:TT}{tb:TS}{D:Ends}{σ:St}{H:Hp}(Pv:St->Hp->Prop)(μ:St->Hp->Nat)(h0:Pv σ H)
  (hs:∀ σ H,Pv σ H->c σ H λb H1=>if b=true then tb (D.lp fun cA H'=>Pv cA H'/\μ cA H' < μ σ H) σ H1 else D.nx σ H1)
  (mono:∀ σ H Q Q',(∀ b H1,Q b H1->Q' b H1)->c σ H Q->c σ H Q'):R8 c tb D σ H:=by
 refine ⟨λm σ H=>m=μ σ H/\Pv σ H,⟨_,rfl,h0⟩,?_⟩;rintro m σ H ⟨rfl,p⟩;refine mono σ H _ _ (λb H1 q=>?_) (hs σ H p);cases b with
 | true=>exact ⟨_,fun cA H' ⟨p',l⟩=>⟨_,l,rfl,p'⟩,q⟩
 | false=>exact q
abbrev R2:=V->V->Hp->VK->Prop
noncomputable def gI (X:Cx)(f:Value->Value->Sem Value)(r:R2):Prop:=
 ∀ (af:List (Addr×Obj)) (s:Shared) (σ:St) (H:Hp) (x y:V) (v u:Value) (Q:VK),Inv X af σ H s->RelV x v->RelV y u->r x y H Q ->
  wpAny (model X.prog X.w) X.A (f v u) (EP X af σ Q) X.xe s
noncomputable def UnR (X:Cx)(f:Value->Sem Value)(r:V->Hp->VK->Prop):Prop:=
 ∀ (af:List (Addr×Obj)) (s:Shared) (σ:St) (H:Hp) (x:V) (v:Value) (Q:VK),Inv X af σ H s->RelV x v->r x H Q ->
  wpAny (model X.prog X.w) X.A (f v) (EP X af σ Q) X.xe s
noncomputable def dm (X:Cx)(f:Value)(r:List V->Hp->VK->Prop):Prop:=
 ∀ (af:List (Addr×Obj)) (s:Shared) (σ:St) (H:Hp) (xs:List V) (us:List Value) (Q:VK),Inv X af σ H s->Vals xs us->r xs H Q ->
  wpAny (model X.prog X.w) X.A (call f us) (EP X af σ Q) X.xe s
noncomputable def Ph (r:R2)(ta tb:TE):TE:=fun σ H Q=>ta σ H λx H1=>tb σ H1 λy H2=>r x y H2 Q
def Ux (r:V->Hp->VK->Prop)(ta:TE):TE:=fun σ H Q=>ta σ H λx H1=>r x H1 Q
noncomputable def rI (C:Int->Int->Prop)(g:Int->Int->V):R2:=λx y H Q=>∃ i j,x=.int i/\y=.int j/\C i j/\Q (g i j) H
noncomputable def vI (g:Int->Int->V):R2:=λx y H Q=>∃ i j,x=.int i/\y=.int j/\Q (g i j) H
def rU (g:Int->V):V->Hp->VK->Prop:=λx H Q=>∃ i,x=.int i/\Q (g i) H
section
variable {X:Cx}{a b c:Expr}{ta tb tc:TE}{pos:Pos}
theorem YX (ha:PE X a ta)(hb:PE X b tb){af:List (Addr×Obj)}{s:Shared}{σ:St}{H:Hp}{R:V->V->Hp->Prop}(I:Inv X af σ H s)
  (h:ta σ H λx H1=>tb σ H1 λy H2=>R x y H2) {Q:Value->Shared->Prop}{f:Value->Value->Sem Value}
  (hf:∀ v u s2 x y H2,Inv X af σ H2 s2->RelV x v->RelV y u->R x y H2->wpAny (model X.prog X.w) X.A (f v u) Q X.xe s2) :
  wpAny (model X.prog X.w) X.A (eval a X.env) (λv bH=>wpAny (model X.prog X.w) X.A (eval b X.env) (λu kB=>wpAny (model X.prog X.w) X.A (f v u) Q X.xe kB) X.xe bH) X.xe s:=by
 refine bG (ha af s σ H _ I h) λv s1 ⟨x,H1,I1,r1,q1⟩=>?_;refine bG (hb af s1 σ H1 _ I1 q1) λu s2 ⟨y,H2,I2,r2,q2⟩=>?_;exact hf v u s2 x y H2 I2 r1 r2 q2
theorem wK {op:Operator}{r:R2}(ho:gI X (binaryOp op) r)(ha:PE X a ta)(hb:PE X b tb):PE X (.BinOp a op b pos) (Ph r ta tb):=by intro af s σ H Q I h;exact wpAny_BinOp (YX ha hb I h λv u s2 x y H2 I2 rx ry q=>ho af s2 σ H2 x y v u Q I2 rx ry q)
theorem SR {op:UnaryOp}{r:V->Hp->VK->Prop}(ho:UnR X (unaryOp op) r)(ha:PE X a ta):PE X (.UnaryOp op a pos) (Ux r ta):=by intro af s σ H Q I h;exact UnaryOp_ (bG (ha af s σ H _ I h) λv s1 ⟨x,H1,I1,r1,q1⟩=>ho af s1 σ H1 x v Q I1 r1 q1)
theorem opI {f:Value->Value->Sem Value}{C:Int->Int->Prop}{g:Int->Int->Int}
  (rule:∀ (i j:Int) (t u:Tok) (s:Shared) (Q:Value->Shared->Prop) (E:Value->Shared->Prop),C i j->Q (.int (g i j) s.toks) { s with toks:=s.toks + 1 }->wpAny (model X.prog X.w) X.A (f (.int i t) (.int j u)) Q E s) :
  gI X f (rI C λi j=>.int (g i j)):=by
 intro af s σ H x y v u Q I rx ry h;obtain ⟨i,j,rfl,rfl,hc,q⟩:=h;obtain ⟨t,rfl⟩:=rx;obtain ⟨t',rfl⟩:=ry;exact rule i j t t' s _ _ hc ⟨.int (g i j),H,I.tok _,⟨_,rfl⟩,q⟩
theorem XX {f:Value->Value->Sem Value}{g:Int->Int->Int}
  (rule:∀ (i j:Int) (t u:Tok) (s:Shared) (Q:Value->Shared->Prop) (E:Value->Shared->Prop),Q (.int (g i j) s.toks) { s with toks:=s.toks + 1 }->wpAny (model X.prog X.w) X.A (f (.int i t) (.int j u)) Q E s) :
  gI X f (vI λi j=>.int (g i j)):=by
 intro af s σ H x y v u Q I rx ry h;obtain ⟨i,j,rfl,rfl,q⟩:=h;obtain ⟨t,rfl⟩:=rx;obtain ⟨t',rfl⟩:=ry;exact rule i j t t' s _ _ ⟨.int (g i j),H,I.tok _,⟨_,rfl⟩,q⟩
theorem VE {f:Value->Value->Sem Value}{g:Int->Int->Bool}
  (rule:∀ (i j:Int) (t u:Tok) (s:Shared) (Q:Value->Shared->Prop) (E:Value->Shared->Prop),Q (.bool (g i j)) s->wpAny (model X.prog X.w) X.A (f (.int i t) (.int j u)) Q E s) :
  gI X f (vI λi j=>.bl (g i j)):=by
 intro af s σ H x y v u Q I rx ry h;obtain ⟨i,j,rfl,rfl,q⟩:=h;obtain ⟨t,rfl⟩:=rx;obtain ⟨t',rfl⟩:=ry;exact rule i j t t' s _ _ ⟨.bl (g i j),H,I,rfl,q⟩
def N1 (i j:Int):Prop:=0<=j/\j<=1000000/\i.natAbs < 2 ^ 64
noncomputable def RH (i j:Int):Prop:=(-(2 ^ 64) < i/\i < 2 ^ 64)\/(-(2 ^ 64) < j/\j < 2 ^ 64)
theorem RH.ok {i j:Int}(h:RH i j):IntMulOk i j:=by
 rcases h with ⟨h1,h2⟩ | ⟨h1,h2⟩
 ·exact .of_left (intBits_le_64 h1 h2)
 ·exact .of_right (intBits_le_64 h1 h2)
theorem wb:gI X (binaryOp .Add) (vI λi j=>.int (i + j)):=XX λ_ _ _ _ _ _ _ q=>add_int q
theorem qH:gI X (binaryOp .Sub) (vI λi j=>.int (i - j)):=XX λ_ _ _ _ _ _ _ q=>sub_int q
theorem qI:gI X (binaryOp .Mult) (rI RH λi j=>.int (i * j)):=opI λ_ _ _ _ _ _ _ hc q=>mul_int q hc.ok
theorem fW:gI X (binaryOp .Mod) (rI (λ_ j=>0 < j) λi j=>.int (i % j)):=opI λi j _ _ _ _ _ hc q=>by
 have h1:(0:Int) < j:=hc;exact mod_int' (by omega) (by rw [Int.fmod_eq_emod_of_nonneg i (by omega)];exact q)
theorem fc:gI X (binaryOp .Pow) (rI N1 λi j=>.int (i ^ j.toNat)):=opI λ_ _ _ _ _ _ _ hc q=>pow_int_small hc.1 hc.2.1 hc.2.2 q
theorem OG:gI X (binaryOp .BitXor) (vI λi j=>.int (Builtin.bitXor i j)):=XX λ_ _ _ _ _ _ _ q=>xor_int q
theorem unI {f:Value->Sem Value}{g:Int->Int}
  (rule:∀ (i:Int) (t:Tok) (s:Shared) (Q:Value->Shared->Prop) (E:Value->Shared->Prop),Q (.int (g i) s.toks) { s with toks:=s.toks + 1 }->wpAny (model X.prog X.w) X.A (f (.int i t)) Q E s) :
  UnR X f (rU λi=>.int (g i)):=by
 intro af s σ H x v Q I rx h;obtain ⟨i,rfl,q⟩:=h;obtain ⟨t,rfl⟩:=rx;exact rule i t s _ _ ⟨.int (g i),H,I.tok _,⟨_,rfl⟩,q⟩
theorem N9:UnR X (unaryOp .USub) (rU λi=>.int (-i)):=unI λ_ _ _ _ _ q=>neg_int q
end
noncomputable def pZa:V->Bool
 |.bL=>true|.int _=>true|.bl _=>true|.str _=>true|_=>false
def pZb:V->Bool
 |.bL=>true|.int _=>true|.str _=>true|_=>false
def pZc:V->Bool
 |.bL=>true|.bl _=>true|.str _=>true|_=>false
def pZd:V->Bool
 |.Rz _=>true|_=>false
noncomputable def pZ:V->V->Bool
 |.bL,y=>pZa y|.int _,y=>pZb y|.bl _,y=>pZc y|.str _,y=>pZa y|.Rz _,y=>pZd y|_,_=>false
theorem pZe {xs:List V}(h:xs.length=4):∃ a b c d,xs=[a,b,c,d]:=by
 rcases xs with _|⟨a,_|⟨b,_|⟨c,_|⟨d,_|⟨e,xs⟩⟩⟩⟩⟩ <;> first|exact ⟨_,_,_,_,rfl⟩|(simp only [List.length_cons,List.length_nil] at h;omega)
def Vt:R2:=λx y H Q=>pZ x y=true/\Q (.bl (decide (x=y))) H
def Vr:R2:=λx y H Q=>pZ x y=true/\Q (.bl (!decide (x=y))) H
theorem Qd {i j:Int}:decide (V.int i=V.int j)=(i == j):=by rw [xB];simp
theorem Ua {i j:Bool}:decide (V.bl i=V.bl j)=(i == j):=by rw [xB];simp
theorem Qc {i j:Str}:decide (V.str i=V.str j)=(i == j):=by rw [xB];simp
theorem Qe {i j:Array UInt8}:decide (V.Rz i=V.Rz j)=(i.toList == j.toList):=by rw [xB];cases i;cases j;simp
section
variable {X:Cx}{a b c:Expr}{ta tb tc:TE}{pos:Pos}
theorem wq {af:List (Addr×Obj)}{σ:St}{H:Hp}{s:Shared}{Q:VK}{k k':Bool}(I:Inv X af σ H s)(q:Q (.bl k) H)(e:k=k'):EP X af σ Q (.bool k') s:=by subst e;exact ⟨.bl k,H,I,rfl,q⟩
theorem cY:gI X (compareOp .Eq) Vt:=by
 intro af s σ H x y v u Q I rx ry h;obtain ⟨hs,q⟩:=h;cases x with
 | bL=>
  cases rx;cases y with
  | bL=>cases ry;exact PySem.EqNone.eq_none_none (wq I q (by simp))
  | bl j=>cases ry;exact PySem.EqNone.eq_none_bool (wq I q (by simp))
  | int j=>obtain ⟨t',rfl⟩:=ry;exact PySem.EqNone.eq_none_int (wq I q (by simp))
  | str j=>obtain ⟨t',rfl⟩:=ry;exact PySem.EqNone.eq_none_str (wq I q (by simp))
  | _=>exact absurd (show false=true from hs) zP
 | bl i=>
  cases rx;cases y with
  | bL=>cases ry;exact PySem.EqNone.eq_bool_none (wq I q (by simp))
  | bl j=>cases ry;exact eq_bool (wq I q Ua)
  | str j=>obtain ⟨t',rfl⟩:=ry;exact PySem.EqMixed.eq_bool_str (wq I q (by simp))
  | _=>exact absurd (show false=true from hs) zP
 | int i=>
  obtain ⟨t,rfl⟩:=rx;cases y with
  | bL=>cases ry;exact PySem.EqNone.eq_int_none (wq I q (by simp))
  | int j=>obtain ⟨t',rfl⟩:=ry;exact eq_int (wq I q Qd)
  | str j=>obtain ⟨t',rfl⟩:=ry;exact PySem.EqMixed.eq_int_str (wq I q (by simp))
  | _=>exact absurd (show false=true from hs) zP
 | str i=>
  obtain ⟨t,rfl⟩:=rx;cases y with
  | bL=>cases ry;exact PySem.EqNone.eq_str_none (wq I q (by simp))
  | bl j=>cases ry;exact PySem.EqMixed.eq_str_bool (wq I q (by simp))
  | int j=>obtain ⟨t',rfl⟩:=ry;exact PySem.EqMixed.eq_str_int (wq I q (by simp))
  | str j=>obtain ⟨t',rfl⟩:=ry;exact eq_str (wq I q Qc)
  | _=>exact absurd (show false=true from hs) zP
 | Rz i=>
  obtain ⟨t,rfl⟩:=rx;cases y with
  | Rz j=>obtain ⟨t',rfl⟩:=ry;exact PySem.W.eq_bytes (wq I q Qe)
  | _=>exact absurd (show false=true from hs) zP
 | _=>cases y <;> exact absurd (show false=true from hs) zP
theorem lJ:gI X (compareOp .NotEq) Vr:=by
 intro af s σ H x y v u Q I rx ry h;obtain ⟨hs,q⟩:=h;cases x with
 | bL=>
  cases rx;cases y with
  | bL=>cases ry;exact PySem.EqNone.ne_none_none (wq I q (by simp))
  | bl j=>cases ry;exact PySem.EqNone.ne_none_bool (wq I q (by simp))
  | int j=>obtain ⟨t',rfl⟩:=ry;exact PySem.EqNone.ne_none_int (wq I q (by simp))
  | str j=>obtain ⟨t',rfl⟩:=ry;exact PySem.EqNone.ne_none_str (wq I q (by simp))
  | _=>exact absurd (show false=true from hs) zP
 | bl i=>
  cases rx;cases y with
  | bL=>cases ry;exact PySem.EqNone.ne_bool_none (wq I q (by simp))
  | bl j=>cases ry;exact ne_bool (wq I q (congrArg not Ua))
  | str j=>obtain ⟨t',rfl⟩:=ry;exact PySem.EqMixed.ne_bool_str (wq I q (by simp))
  | _=>exact absurd (show false=true from hs) zP
 | int i=>
  obtain ⟨t,rfl⟩:=rx;cases y with
  | bL=>cases ry;exact PySem.EqNone.ne_int_none (wq I q (by simp))
  | int j=>obtain ⟨t',rfl⟩:=ry;exact ne_int (wq I q (congrArg not Qd))
  | str j=>obtain ⟨t',rfl⟩:=ry;exact PySem.EqMixed.ne_int_str (wq I q (by simp))
  | _=>exact absurd (show false=true from hs) zP
 | str i=>
  obtain ⟨t,rfl⟩:=rx;cases y with
  | bL=>cases ry;exact PySem.EqNone.ne_str_none (wq I q (by simp))
  | bl j=>cases ry;exact PySem.EqMixed.ne_str_bool (wq I q (by simp))
  | int j=>obtain ⟨t',rfl⟩:=ry;exact PySem.EqMixed.ne_str_int (wq I q (by simp))
  | str j=>obtain ⟨t',rfl⟩:=ry;exact ne_str (wq I q (congrArg not Qc))
  | _=>exact absurd (show false=true from hs) zP
 | Rz i=>
  obtain ⟨t,rfl⟩:=rx;cases y with
  | Rz j=>obtain ⟨t',rfl⟩:=ry;exact PySem.W.ne_bytes (wq I q (congrArg not Qe))
  | _=>exact absurd (show false=true from hs) zP
 | _=>cases y <;> exact absurd (show false=true from hs) zP
theorem nV:gI X (compareOp .Lt) (vI λi j=>.bl (decide (i < j))):=VE λ_ _ _ _ _ _ _ q=>lt_int q
theorem nW:gI X (compareOp .LtE) (vI λi j=>.bl (decide (i<=j))):=VE λ_ _ _ _ _ _ _ q=>le_int q
theorem lK:gI X (compareOp .Gt) (vI λi j=>.bl (decide (j < i))):=VE λ_ _ _ _ _ _ _ q=>gt_int q
theorem WI:gI X (compareOp .GtE) (vI λi j=>.bl (decide (j<=i))):=VE λ_ _ _ _ _ _ _ q=>ge_int q
theorem aM (b:Expr){op:CmpOp}(h:op≠.In:=by decide)(h2:op≠.NotIn:=by decide):behindInMarks op b=false:=by
 have e1:(op == CmpOp.In)=false:=by cases op <;> first | rfl | exact absurd rfl h
 have e2:(op == CmpOp.NotIn)=false:=by cases op <;> first | rfl | exact absurd rfl h2
 cases b <;> simp [behindInMarks,e1,e2]
theorem fV {op:CmpOp}{r:R2}(ho:gI X (compareOp op) r)(ha:PE X a ta)(hb:PE X b tb)(hm:behindInMarks op b=false):PE X (.Compare a [op] [b] pos) (Ph r ta tb):=by intro af s σ H Q I h;exact wpAny_Compare1 (YX ha hb I h λv u s2 x y H2 I2 rx ry q=>ho af s2 σ H2 x y v u Q I2 rx ry q) hm
def iM (t:TE):TT:=fun σ H Q=>t σ H λx H'=>∃ k,x=.bl k/\Q k H'
theorem wM {op:CmpOp}{r:R2}(ho:gI X (compareOp op) r)(ha:PE X a ta)(hb:PE X b tb)(hm:behindInMarks op b=false):PT X (.Compare a [op] [b] pos) (iM (Ph r ta tb)):=by
 intro af s σ H Q I h;refine wpAny_isTrue_Compare1 (bG (ha af s σ H _ I h) λv s1 ⟨x,H1,I1,r1,q1⟩=>bG (hb af s1 σ H1 _ I1 q1) λu s2 ⟨y,H2,I2,r2,q2⟩=>
  bG (ho af s2 σ H2 x y v u _ I2 r1 r2 q2) λc s3 ⟨z,H3,I3,r3,k,e,q3⟩=>?_) hm
 subst e;cases r3;exact wpAny_truthy_bool ⟨H3,I3,q3⟩
noncomputable def eS (r r':R2)(ta tb tc:TE):TE:=fun σ H Q=>ta σ H λx H1=>tb σ H1 λy H2=>r x y H2 λz H3=>∃ k,z=.bl k /\
 (if k=true then tc σ H3 λw' H4=>r' y w' H4 Q else Q (.bl false) H3)
theorem SV {op XY:CmpOp}{r r':R2}(ho:gI X (compareOp op) r)(rj:gI X (compareOp XY) r')(ha:PE X a ta)(hb:PE X b tb)(hc:PE X c tc)
  (hm:lastMarks [op,XY] [b,c]=false:=by with_unfolding_all rfl):PE X (.Compare a [op,XY] [b,c] pos) (eS r r' ta tb tc):=by
 intro af s σ H Q I h;refine Compare_chain (bG (ha af s σ H _ I h) λv s1 z714=>?_) hm;obtain ⟨x,H1,I1,r1,q1⟩:=z714;refine chain_link (bG (hb af s1 σ H1 _ I1 q1) λu s2 z715=>?_);obtain ⟨y,H2,I2,r2,q2⟩:=z715;refine  bG (ho af s2 σ H2 x y v u _ I2 r1 r2 q2) λd s3 z716=>?_;obtain ⟨z,H3,I3,r3,k,e,q3⟩:=z716
 subst e;cases r3;refine wpAny_truthy_bool ?_;cases k with
 | false=>exact ite_ff ⟨.bl false,H3,I3,rfl,q3⟩
 | true=>exact ite_tt (chain_last (bG (hc af s3 σ H3 _ I3 q3) λw' s4 z717=>by obtain ⟨z',H4,I4,r4,q4⟩:=z717;exact rj af s4 σ H4 y z' u w' Q I4 r2 r4 q4))
theorem SM {op XY:CmpOp}{r r':R2}(ho:gI X (compareOp op) r)(rj:gI X (compareOp XY) r')(ha:PE X a ta)(hb:PE X b tb)(hc:PE X c tc)
  (hm:lastMarks [op,XY] [b,c]=false:=by with_unfolding_all rfl):PT X (.Compare a [op,XY] [b,c] pos) (iM (eS r r' ta tb tc)):=by
 intro af s σ H Q I h;refine isTrue_chain (bG (ha af s σ H _ I h) λv s1 z724=>?_) hm;obtain ⟨x,H1,I1,r1,q1⟩:=z724;refine test_link (bG (hb af s1 σ H1 _ I1 q1) λu s2 z725=>?_);obtain ⟨y,H2,I2,r2,q2⟩:=z725;refine  bG (ho af s2 σ H2 x y v u _ I2 r1 r2 q2) λd s3 z726=>?_;obtain ⟨z,H3,I3,r3,k,e,q3⟩:=z726
 subst e;cases r3;refine wpAny_truthy_bool ?_;cases k with
 | false=>
  obtain ⟨k',e',q'⟩:=q3;cases e';exact ite_ff ⟨H3,I3,q'⟩
 | true=>
  refine ite_tt (test_last (bG (hc af s3 σ H3 _ I3 q3) λw' s4 z727=>?_));obtain ⟨z',H4,I4,r4,q4⟩:=z727;refine bG (rj af s4 σ H4 y z' u w' _ I4 r2 r4 q4) λd' s5 z728=>?_;obtain ⟨z2,H5,I5,r5,k2,e2,q5⟩:=z728;subst e2;cases r5;exact wpAny_truthy_bool ⟨H5,I5,q5⟩
theorem om:(sizeLine:Nat) < 2 ^ 63:=by rw [sizeLine_eq];decide
theorem vals1 {x:V}{us:List Value}(r:Vals [x] us):∃ u,us=[u]/\RelV x u:=by
 cases r with
 | cons r1 r2=>cases r2;exact ⟨_,rfl,r1⟩
theorem vals2 {x y:V}{us:List Value}(r:Vals [x,y] us):∃ u w',us=[u,w']/\RelV x u/\RelV y w':=by
 cases r with
 | cons r1 r2=>
  cases r2 with
  | cons r3 r4=>cases r4;exact ⟨_,_,rfl,r1,r3⟩
theorem iD (hc:X.calm=true):dm X (.builtin "max") (λxs H Q=>∃ i j,xs=[.int i,.int j]/\Q (.int (if j > i then j else i)) H):=by
 intro af s σ H xs us Q I r h;obtain ⟨i,j,rfl,q⟩:=h;obtain ⟨u,w',rfl,⟨t,rfl⟩,⟨t',rfl⟩⟩:=vals2 r;refine max_two_ints (I.ok.hd hc) λh' tk k=>⟨_,H,I.kept k,?_,q⟩;by_cases hj:j > i
 ·rw [if_pos hj,if_pos hj];exact ⟨_,rfl⟩
 ·rw [if_neg hj,if_neg hj];exact ⟨_,rfl⟩
theorem dD (hc:X.calm=true):dm X (.builtin "min") (λxs H Q=>∃ i j,xs=[.int i,.int j]/\Q (.int (if j < i then j else i)) H):=by
 intro af s σ H xs us Q I r h;obtain ⟨i,j,rfl,q⟩:=h;obtain ⟨u,w',rfl,⟨t,rfl⟩,⟨t',rfl⟩⟩:=vals2 r;refine min_two_ints (I.ok.hd hc) λh' tk k=>⟨_,H,I.kept k,?_,q⟩;by_cases hj:j < i
 ·rw [if_pos hj,if_pos hj];exact ⟨_,rfl⟩
 ·rw [if_neg hj,if_neg hj];exact ⟨_,rfl⟩
end
structure O9 (h:Heap) (x dx C:Addr) (mA:Str->Option Value):Prop where
 obj:h.get? x=some (yo C dx)
 ns:h.Ns1 dx mA
 ne:dx≠x
theorem QZ {h:Heap}{dx:Addr}{mA:Str->Option Value}(n:h.Ns1 dx mA):∃ od,h.get? dx=some od/\∀ name,PySem.W.lookIn name od=some (mA name):=by
 obtain ⟨o,es,ep,ho,hd,hk,_,hm⟩:=n;refine ⟨o,ho,λname=>?_⟩;have e:=hm name;unfold nsFind findBy at e;rw [<-Array.find?_toList] at e;unfold PySem.W.lookIn;rw [hd];dsimp only;split
 ·rename_i y q;rw [q] at e;exact congrArg some e
 ·rename_i q;rw [q] at e;have a:es.toList.any (·.refKey)=false:=by
   rw [List.any_eq_false];intro y hy;obtain ⟨z,t,ado⟩:=hk y (Array.mem_toList_iff.mp hy);simp [DictEntry.refKey,ado]
  have a':¬ es.toList.any (·.refKey)=true:=by rw [a];exact zP
  rw [if_neg a'];exact congrArg some e
theorem O9.look {h:Heap}{x dx C:Addr}{mA:Str->Option Value}(I:O9 h x dx C mA):∃ od,PySem.W.InstAt h x (yo C dx) C (some od)/\∀ name,PySem.W.lookIn name od=some (mA name):=
 let ⟨od,ho,hl⟩:=QZ I.ns
 ⟨od,⟨I.obj,rfl,rfl,ho⟩,hl⟩
section
variable {prog:Program}{w:World}{A:Around}{E:Value->Shared->Prop}{s:Shared}{K:PySem.W.Frag}{x dx C f:Addr}{mA:Str->Option Value}{name:Str}{v:Value}
theorem get_map {expr:Bool}{Q:Value->Shared->Prop}(X:K.In s.heap)(I:O9 s.heap x dx C mA)(hg:xZ K C name=true)(hh:PySem.W.hasDictIn K C=true)
  (ha:zu K (.ref C) name=some none) (hv:mA name=some v) (WN:PySem.W.handedIn v=true) (h:Q v { s with toks:=s.toks + 1 }) :
  wpAny (model prog w) A (getAttr (.ref x) name expr) Q E s:=by
 obtain ⟨od,J,hl⟩:=I.look;exact PySem.W.get_value X J (PySem.W.plainGet_of hg).1 (PySem.W.findObj_own hh ha rfl (by rw [hl,hv])) WN h
theorem T3 {pl:Sem Bool}{Q:Value×List Value->Shared->Prop}(X:K.In s.heap)(I:O9 s.heap x dx C mA)(hg:xZ K C name=true)
  (hf:zu K (.ref C) name=some (some (.ref f))) (ht:yq K (.ref f)=true) (hv:mA name=none) (h:Q (.ref f,[.ref x]) s) :
  wpAny (model prog w) A (getMethod (.ref x) name pl) Q E s:=by
 obtain ⟨od,J,hl⟩:=I.look;exact PySem.W.method_fn X J (PySem.W.plainGet_of hg).1 (PySem.W.plainGet_of hg).2 hf (beq_iff_eq.mp ht) (by show (PySem.W.lookIn name od).map (·.isSome)=some false;rw [hl,hv];rfl) h
theorem Vh {ns:List Str}{Q:Unit->Shared->Prop}(X:K.In s.heap)(I:O9 s.heap x dx C mA)
  (hs:zu K (.ref C) "__setattr__" = some (some (.builtin "object.__setattr__"))) (hp:PySem.W.plainOver K C=true) (ht:PySem.W.takerIn K C name=some none) (hh:PySem.W.hasDictIn K C=true)
  (hw:PySem.Within mA ns) (hsz:ns.length<=sizeLine)
  (h:∀ h',O9 h' x dx C (λy=>if y=name then some v else mA y)->Heap.SameBut dx s.heap h'->Q () { s with heap:=h',toks:=s.toks + 2 }) :
  wpAny (model prog w) A (setAttr (.ref x) name v) Q E s:=by
 obtain ⟨od,J,hl⟩:=I.look;refine PySem.W.set_plain X J hs (PySem.W.osa_open (s:={ s with toks:=s.toks + 1 }) (r:=none) X J hp ht λb=>?_);obtain ⟨cd,hc,Rg⟩:=PySem.W.any_some hh;have hx:s.heap.get? x=some ⟨.ref C,some dx,.plain,#[]⟩:=I.obj;refine wpAny_bind (wpAny_pure (wpAny_bind (wpAny_bind (wpAny_loadPart hx (wpAny_bind (PySem.W.Looks.here (s:={ s with toks:=s.toks + 1 }) (PySem.W.looks_clsIn X hc) ?_))))));rw [Rg];refine wpAny_pure (a:=some dx) (wpAny_bind (wpAny_pure (wpAny_bind ?_)));refine wpAny_nsSet1 (s:={ s with toks:=s.toks + 1 }) I.ns λh' hn2 N5=>?_;obtain ⟨oD,esD,epD,hoD,hdD,hcD⟩:=hn2.count (PySem.Within.cons name v hw);refine wpAny_bind (wpAny_lookBehind hoD (by rw [hdD];exact pastItsLine_dict (yC hcD (by rw [zU];omega))) ?_);exact wpAny_pure (h _ ⟨(N5.2 _ (Ne.symm I.ne)).trans I.obj,hn2,I.ne⟩ N5)
theorem Tc {R:Result->Shared->Prop}{vs:List Value}{kw:List (Str×Value)}(X:K.In s.heap)(hm:PySem.W.makesIn K C=true)
  (hi:zu K (.ref C) "__init__" = some (some (.ref f))) (hf:PySem.W.typeIn K (.ref f)=some (.type "function"))
  (h:codeAny (model prog w) (A.under (.builtin "type.__call__" ⟨.ref C::vs,kw⟩)) (.call (.ref f) ⟨.ref (s.heap.objs.size + 1)::vs,kw⟩) (PySem.W.InitBack (s.heap.objs.size + 1) R)
   { s with heap:=(s.heap.push yY).push (yo C s.heap.objs.size) }) :
  codeAny (model prog w) A (.call (.ref C) ⟨vs,kw⟩) R s:=by
 obtain ⟨hh,g,d,t,os⟩:=s;exact PySem.W.make_core (PySem.W.makes_of X hm) (PySem.W.looks_findIn X hi) (λself=>PySem.W.bind_fn X self hf) (.inl rfl) h
end
noncomputable def eX (f:Str)(v:V):List (Str×V)->List (Str×V)
 | []=>[(f,v)]
 | (g,x)::r=>if g=f then (g,v)::r else (g,x)::eX f v r
theorem lN (f g:Str)(v:V):∀ fs:List (Str×V),(eX f v fs).lookup g=if g=f then some v else fs.lookup g
 | []=>by
  show xO g [(f,v)]=_;by_cases h:g=f
  ·have hb:(g == f)=true:=beq_iff_eq.mpr h;simp only [xO,hb,if_pos h]
  ·have hb:(g == f)=false:=beq_eq_false_iff_ne.mpr h;simp only [xO,hb,if_neg h]
 | (k,x)::r=>by
  have ih:=lN f g v r;rw [show eX f v ((k,x)::r)=(if k=f then (k,v)::r else (k,x)::eX f v r) from rfl];by_cases hk:k=f
  ·rw [if_pos hk];by_cases h:g=k
   ·have hb:(g == k)=true:=beq_iff_eq.mpr h;simp only [xO,hb,if_pos (h.trans hk)]
   ·have hb:(g == k)=false:=beq_eq_false_iff_ne.mpr h;simp only [xO,hb,if_neg (λe:g=f=>h (e.trans hk.symm))]
  ·rw [if_neg hk];by_cases h:g=k
   ·have hb:(g == k)=true:=beq_iff_eq.mpr h;simp only [xO,hb,if_neg (λe:g=f=>hk (h.symm.trans e))]
   ·have hb:(g == k)=false:=beq_eq_false_iff_ne.mpr h;simp only [xO,hb];exact ih
theorem kO (f:Str)(v:V):∀ fs:List (Str×V),f∈(eX f v fs).map (·.1)/\∀ g,g∈fs.map (·.1)->g∈(eX f v fs).map (·.1)
 | []=>⟨by simp [eX],λg h=>by simp at h⟩
 | (k,x)::r=>by
  obtain ⟨i1,i2⟩:=kO f v r;rw [show eX f v ((k,x)::r)=(if k=f then (k,v)::r else (k,x)::eX f v r) from rfl];by_cases hk:k=f
  ·rw [if_pos hk];subst hk;exact ⟨by simp,λg h=>by simpa using h⟩
  ·rw [if_neg hk];refine ⟨?_,λg h=>?_⟩
   ·rw [zc];exact zn _ i1
   ·rw [zc] at h ⊢;rcases zH.mp h with e | e
    ·exact zH.mpr (.inl e)
    ·exact zn _ (i2 g e)
theorem lO (f:Str)(v:V):∀ fs:List (Str×V),(eX f v fs).length<=fs.length + 1
 | []=>by simp [eX]
 | (k,x)::r=>by
  have ih:=lO f v r;rw [show eX f v ((k,x)::r)=(if k=f then (k,v)::r else (k,x)::eX f v r) from rfl];by_cases hk:k=f
  ·rw [if_pos hk,zU,zU];omega
  ·rw [if_neg hk,zU,zU];omega
theorem iJ.some_of {v:V}{o:Option Value}(r:iJ (some v) o):∃ u,o=some u/\RelV v u:=by
 cases o with
 | none=>exact (show False from r).elim
 | some u=>exact ⟨u,rfl,r⟩
theorem iJ.none_of {o:Option Value}(r:iJ none o):o=none:=by
 cases o with
 | none=>rfl
 | some u=>exact (show False from r).elim
theorem Rj {v:V}{u:Value}(r:RelV v u):PySem.W.handedIn u=true:=by
 cases v with
 | bL=>cases (show u=Value.none from r);rfl
 | bl b=>cases (show u=Value.bool b from r);rfl
 | int i=>obtain ⟨t,e⟩:=(show ∃ t,u=Value.int i t from r);cases e;rfl
 | str x=>obtain ⟨t,e⟩:=(show ∃ t,u=Value.str x t from r);cases e;rfl
 | Rz b=>obtain ⟨t,e⟩:=(show ∃ t,u=Value.bytes b t from r);cases e;rfl
 | WX b=>obtain ⟨t,e⟩:=(show ∃ t,u=Value.float b t from r);cases e;rfl
 | ref a=>cases (show u=Value.ref a from r);rfl
 | ty n=>cases (show u=Value.type n from r);rfl
section
variable {P:Program}{w:World}{H H':Hp}{h h':Heap}{a C dx:Addr}{fs Zp:List (Str×V)}
theorem mO (bF:ic P w H h)(e:H a=some (.ins C dx fs)):∃ mA,O9 h a dx C mA/\(∀ f,iJ (fs.lookup f) (mA f))/\PySem.Within mA (fs.map (·.1))/\fs.length<=1000/\H dx=some (.own a):=by obtain ⟨d,z,ne,ob,mA,n,r,q⟩:=(show bJ P w H h a (.ins C dx fs) from bF a _ e);exact ⟨mA,⟨ob,n,ne⟩,r,q,z,d⟩
end
structure Uv (K:PySem.W.Frag) (C:Addr):Prop where
 pg:xZ K C Str.empty=true
 hd:PySem.W.hasDictIn K C=true
 po:PySem.W.plainOver K C=true
 sa:zu K (.ref C) "__setattr__" = some (some (.builtin "object.__setattr__"))
theorem Uv.get {K:PySem.W.Frag}{C:Addr}(c:Uv K C)(f:Str):xZ K C f=true:=c.pg
def dU (K:PySem.W.Frag)(C:Addr)(f:Str):Prop:=zu K (.ref C) f=some none
theorem dU.ZD {K:PySem.W.Frag}{C:Addr}{f:Str}(n:dU K C f):PySem.W.takerIn K C f=some none:=by unfold PySem.W.takerIn;rw [show zu K (.ref C) f=some none from n];rfl
structure Meth (K:PySem.W.Frag) (C:Addr) (m:Str) (f:Addr):Prop where
 at_:zu K (.ref C) m=some (some (.ref f))
 fn:yq K (.ref f)=true
 kp:zF K (.ref f)=true
section
variable {X:Cx}{af:List (Addr×Obj)}{σ:St}{H:Hp}{s:Shared}{a C dx:Addr}{fs:List (Str×V)}{f:Str}{v:V}{A:Around}{E:Value->Shared->Prop}
theorem oN {b:Bool}{Q:Value->Shared->Prop}(I:Inv X af σ H s)(e:H a=some (.ins C dx fs))(c:Uv X.K C)(n:dU X.K C f)(l:fs.lookup f=some v)
  (h:∀ u s',Inv X af σ H s'->RelV v u->Q u s'):wpAny (model X.prog X.w) A (getAttr (.ref a) f b) Q E s:=by
 obtain ⟨mA,O,r,_,_,_⟩:=mO I.bF e;obtain ⟨u,hu,ru⟩:=iJ.some_of (v:=v) (o:=mA f) (by rw [<-l];exact r f);exact get_map I.mj O (c.get f) c.hd n hu (Rj ru) (h u _ (I.tok _) ru)
theorem OW {m:Str}{g:Addr}{pl:Sem Bool}{Q:Value×List Value->Shared->Prop}(I:Inv X af σ H s)(e:H a=some (.ins C dx fs))(c:Uv X.K C)(k:Meth X.K C m g)(l:fs.lookup m=none)
  (h:Q (.ref g,[.ref a]) s):wpAny (model X.prog X.w) A (getMethod (.ref a) m pl) Q E s:=by
 obtain ⟨mA,O,r,_,_,_⟩:=mO I.bF e;have hn:mA m=none:=iJ.none_of (by rw [<-l];exact r m);exact T3 I.mj O (c.get m) k.at_ k.fn hn h
theorem nG {y:V}{u:Value}{Q:Unit->Shared->Prop}(I:Inv X af σ H s)(e:H a=some (.ins C dx fs))(c:Uv X.K C)(n:dU X.K C f)(hl:fs.length < 1000)(ry:RelV y u)
  (h:∀ s',Inv X af σ (upd H a (.ins C dx (eX f y fs))) s'->Q () s'):wpAny (model X.prog X.w) A (setAttr (.ref a) f u) Q E s:=by
 obtain ⟨mA,O,r,wi,_,ho⟩:=mO I.bF e;have hz:(fs.map (·.1)).length<=sizeLine:=by rw [zA,sizeLine_eq];omega
 refine Vh I.mj O c.sa c.po n.ZD c.hd wi hz λh' O' sb=>h _ ?_;have hd:∃ o,h'.get? dx=some o:=let ⟨o,_,_,e',_⟩:=O'.ns;⟨o,e'⟩;refine I.write (x:=a) (e:=dx) (by rw [e];exact True.intro) (.inr ho) (λb q hb z=>(sb.2 b hb).trans z) hd ?_;refine ⟨by rw [wF O.ne];exact ho,?_,O.ne,O'.obj,_,O'.ns,λg=>?_,λg hg=>?_⟩
 ·have:=lO f y fs;omega
 ·show iJ ((eX f y fs).lookup g) (if g=f then some u else mA g);rw [lN];by_cases q:g=f
  ·rw [if_pos q,if_pos q];exact ry
  ·rw [if_neg q,if_neg q];exact r g
 ·by_cases q:g=f
  ·rw [q];exact (kO f y fs).1
  ·refine (kO f y fs).2 g (wi g λz=>hg ?_);show (if g=f then some u else mA g)=none;rw [if_neg q];exact z
theorem Inv.made (I:Inv X af σ H s):Inv X af σ (upd (upd H s.heap.objs.size (.own (s.heap.objs.size + 1))) (s.heap.objs.size + 1) (.ins C s.heap.objs.size []))
  { s with heap:=(s.heap.push yY).push (yo C s.heap.objs.size) }:=by
 have e1:(s.heap.push yY).get? s.heap.objs.size=some yY:=Heap.get?_push_size s.heap rfl;have e2:((s.heap.push yY).push (yo C s.heap.objs.size)).get? (s.heap.objs.size + 1)=some (yo C s.heap.objs.size):=by
  have:=Heap.get?_push_size (s.heap.push yY) (o:=yo C s.heap.objs.size) rfl;rwa [Heap.size_push] at this
 have e3:(s.heap.push yY).Ns s.heap.objs.size (λ_=>none):=⟨yY,#[],_,e1,rfl,(λe he=>absurd he (by simp)),λ_=>rfl⟩;have I1:=I.laid (a:=s.heap.objs.size) (o:=.own (s.heap.objs.size + 1)) (h':=s.heap.push yY) (t':=s.toks) (λb u q=>Heap.get?_push_of_some _ q) (zD _) ⟨_,e1⟩;refine I1.laid (a:=s.heap.objs.size + 1) (o:=.ins C s.heap.objs.size []) (t':=s.toks) (λb u q=>Heap.get?_push_of_some _ q) (Nat.le_of_eq (Heap.size_push _ _)) ?_;have ne:s.heap.objs.size≠s.heap.objs.size + 1:=zY (xa _);refine ⟨by rw [wF ne,xq],za _,ne,e2,λ_=>none,(Heap.Ns1.of_empty e3).at λo q=>Heap.get?_push_of_some _ q,λ_=>True.intro,λy hy=>absurd rfl hy⟩
theorem Wr {prog:Program}{w:World}{env:Env}{e:Expr}{f:Str}{pos:Pos}{s:Shared}{Q:Value->Shared->Prop}(hb:attributeBase e f env (eval e env)=eval e env)
  (h:wpAny (model prog w) A (eval e env) (λo bH=>wpAny (model prog w) A (getAttr o f true) Q E bH) E s):wpAny (model prog w) A (eval (.Attribute e f pos) env) Q E s:=
 Attribute_any_ h (by rw [arm_eval_Attribute,hb])
end
noncomputable def ZI (K:PySem.W.Frag)(ta:TE)(f:Str):TE:=fun σ H Q=>ta σ H λx H1=>∃ a C dx fs v,x=.ref a/\H1 a=some (.ins C dx fs)/\Uv K C/\dU K C f/\fs.lookup f=some v/\Q v H1
noncomputable def acp (K:PySem.W.Frag)(ta tv:TE)(f:Str):TS:=λD σ H=>tv σ H λy H1=>ta σ H1 λx H2=>∃ a C dx fs,x=.ref a/\H2 a=some (.ins C dx fs)/\Uv K C/\dU K C f/\fs.length < 1000 /\
 D.nx σ (upd H2 a (.ins C dx (eX f y fs)))
noncomputable def adZ (X:Cx)(op:Operator)(rd:V->V->Hp->VK->Prop):Prop:=
 ∀ (af:List (Addr×Obj)) (s:Shared) (σ:St) (H:Hp) (x y:V) (u v:Value) (Q:VK),Inv X af σ H s->RelV x u->RelV y v->rd x y H Q->wpAny (model X.prog X.w) X.A (inplaceOp op u v) (EP X af σ Q) X.xe s
noncomputable def Vi (K:PySem.W.Frag)(ta tv:TE)(rd:V->V->Hp->VK->Prop)(f:Str):TS:=λD σ H=>ta σ H λx H1=>∃ a C dx fs v,x=.ref a/\H1 a=some (.ins C dx fs)/\Uv K C/\dU K C f/\fs.lookup f=some v /\
 tv σ H1 λy H2=>rd v y H2 λz H3=>∃ dx' Zp,H3 a=some (.ins C dx' Zp)/\Zp.length < 1000/\D.nx σ (upd H3 a (.ins C dx' (eX f z Zp)))
section
variable {X:Cx}{o e value:Expr}{f:Str}{pos pos' UT:Pos}{ta tv:TE}
theorem eZ (he:PE X e ta)(hb:attributeBase e f X.env (eval e X.env)=eval e X.env):PE X (.Attribute e f pos) (ZI X.K ta f):=by intro af s σ H Q I h;refine Wr hb (bG (he af s σ H _ I h) λu s1 z705=>?_);obtain ⟨x,H1,I1,rx,a,C,dx,fs,v,ex,ea,c,n,l,q⟩:=z705;subst ex;obtain rfl:u=Value.ref a:=rx;exact oN I1 ea c n l λu' s2 I2 ru=>⟨v,H1,I2,ru,q⟩
theorem nP (ha:PE X o ta)(hv:PE X value tv)(hs:swapsWith value (some (.Attribute o f pos')) pos.line X.env=pure false):PS X (.Assign [.Attribute o f pos'] value pos) (acp X.K ta tv f):=by intro af s σ H D I h;refine plainObj_wpAny_Assign_Attribute (bG (hv af s σ H _ I h) λu s1 z703=>?_) hs;obtain ⟨y,H1,I1,ry,q⟩:=z703;refine bG (ha af s1 σ H1 _ I1 q) λov s2 z704=>?_;obtain ⟨x,H2,I2,rx,a,C,dx,fs,ex,ea,c,n,l,q2⟩:=z704;subst ex;obtain rfl:ov=Value.ref a:=rx;exact nG I2 ea c n l ry λs3 I3=>⟨σ,_,I3,q2⟩
theorem sd {op:Operator}{rd:V->V->Hp->VK->Prop}(ha:PE X o ta)(hv:PE X value tv)(hop:adZ X op rd):PS X (.AugAssign (.Attribute o f UT) op value pos) (Vi X.K ta tv rd f):=by intro af s σ H D I h;refine wpAny_AugAssign_AttributeAny (bG (ha af s σ H _ I h) λov s1 z700=>?_);obtain ⟨x,H1,I1,rx,a,C,dx,fs,v,ex,ea,c,n,l,q⟩:=z700;subst ex;obtain rfl:ov=Value.ref a:=rx;refine oN I1 ea c n l λu s2 I2 ru=>bG (hv af s2 σ H1 _ I2 q) λw3 s3 z701=>?_;obtain ⟨y,H2,I3,ry,q3⟩:=z701;refine bG (hop af s3 σ H2 v y u w3 _ I3 ru ry q3) λw4 s4 z702=>?_;obtain ⟨z,H3,I4,rz,dx',Zp,ea',l',q4⟩:=z702;exact nG I4 ea' c n l' rz λs5 I5=>⟨σ,_,I5,q4⟩
end
section
variable {X:Cx}{af:List (Addr×Obj)}{σ:St}{H:Hp}{s:Shared}{A:Around}{E:Value->Shared->Prop}{Q:Value->Shared->Prop}{c:Value}{b:Bool}
inductive lB (K:PySem.W.Frag) (H:Hp):V->Value->Prop where
 | bL:lB K H .bL (.type "NoneType")
 | bl (x:Bool):lB K H (.bl x) (.type "bool")
 | int (i:Int):lB K H (.int i) (.type "int")
 | str (x:Str):lB K H (.str x) (.type "str")
 | WX (x:UInt64):lB K H (.WX x) (.type "float")
 | lst {a:Addr}{xs:List V} (e:H a=some (.lst xs)):lB K H (.ref a) (.type "list")
 | uF {a:Addr}{o:Obj}{xs:List V} (e:H a=some (.uF o (.lst xs))):lB K H (.ref a) (.type "list")
 | tup {a:Addr}{xs:List V} (e:H a=some (.tup xs)):lB K H (.ref a) (.type "tuple")
 | dK {a:Addr}{aN:List (Key×V)} (e:H a=some (.dK aN)):lB K H (.ref a) (.type "dict")
 | dT {a:Addr}{aN:List (List Key×V)} (e:H a=some (.dT aN)):lB K H (.ref a) (.type "dict")
 | ins {a C dx:Addr}{fs:List (Str×V)} (e:H a=some (.ins C dx fs)) (cl:Uv K C) (ha:zu K (.ref C) "__class__" = some (some (.builtin "object.__class__")))
   (hn:PySem.W.specialIn K (.builtin "object.__class__") "__get__" = some (some (.builtin "getset_descriptor.__get__"))) (htk:PySem.W.takesIn K (.builtin "object.__class__")=some true)
   (hm:PySem.W.mroIn K C (.type "object")=some true):lB K H (.ref a) (.ref C)
theorem Ra {x:V}{u t:Value}(I:Inv X af σ H s)(rx:RelV x u)(ty:lB X.K H x t)(e:PySem.W.kitOne X.K t c=some b)(h:∀ tk,Q (.bool b) { s with toks:=tk }) :
  wpAny (model X.prog X.w) A (call (.builtin "isinstance") [u,c]) Q E s:=by
 cases ty with
 | bL=>cases (show u=Value.none from rx);exact yT PySem.W.kitx_none I.mj True.intro e (λz=>nomatch z) h
 | bl y=>cases (show u=Value.bool y from rx);exact yT PySem.W.kitx_bool I.mj True.intro e (λz=>nomatch z) h
 | int i=>obtain ⟨t,q⟩:=(show ∃ t,u=Value.int i t from rx);cases q;exact yT PySem.W.kitx_int I.mj True.intro e (λz=>nomatch z) h
 | str y=>obtain ⟨t,q⟩:=(show ∃ t,u=Value.str y t from rx);cases q;exact yT PySem.W.kitx_str I.mj True.intro e (λz=>nomatch z) h
 | WX y=>obtain ⟨t,q⟩:=(show ∃ t,u=Value.float y t from rx);cases q;exact yT PySem.W.kitx_float I.mj True.intro e (λz=>nomatch z) h
 | @lst a xs ea=>
  cases (show u=Value.ref a from rx);obtain ⟨_,_,n,_,h1⟩:=(show bJ X.prog X.w H s.heap a (.lst xs) from I.bF a _ ea);exact yT PySem.W.kitx_list I.mj ⟨_,h1,rfl⟩ e (λz=>nomatch z) h
 | @uF a ob xs ea=>
  cases (show u=Value.ref a from rx);obtain ⟨_,_,_,n,_,h1⟩:=(show bJ X.prog X.w H s.heap a (.uF ob (.lst xs)) from I.bF a _ ea);exact yT PySem.W.kitx_list I.mj ⟨_,h1,rfl⟩ e (λz=>nomatch z) h
 | @tup a xs ea=>
  cases (show u=Value.ref a from rx);obtain ⟨_,_,_,p⟩:=(show bJ X.prog X.w H s.heap a (.tup xs) from I.bF a _ ea);obtain ⟨o,h1,h2,_⟩:=p;exact yT PySem.W.kitx_tuple I.mj ⟨o,h1,h2⟩ e (λz=>nomatch z) h
 | @dK a aN ea=>
  cases (show u=Value.ref a from rx);obtain ⟨_,_,vs,_,p⟩:=(show bJ X.prog X.w H s.heap a (.dK aN) from I.bF a _ ea);obtain ⟨o,es,ep,h1,h2,_⟩:=p;exact yT PySem.W.kitx_dict I.mj ⟨o,h1,h2.1⟩ e (λz=>nomatch z) h
 | @dT a aN ea=>
  cases (show u=Value.ref a from rx);obtain ⟨_,_,xs,_,o,es,ep,h1,h2,_⟩:=(show bJ X.prog X.w H s.heap a (.dT aN) from I.bF a _ ea);exact yT PySem.W.kitx_dict I.mj ⟨o,h1,h2.1⟩ e (λz=>nomatch z) h
 | @ins a C dx fs ea cl ha hn htk hm=>
  cases (show u=Value.ref a from rx);obtain ⟨mA,O,_⟩:=mO I.bF ea;obtain ⟨od,J,_⟩:=O.look;exact yT (PySem.W.kitx_own (cl.get _) cl.hd ha hn htk hm) I.mj J e (λz=>nomatch z) h
end
structure cN (k:Nat) (A:Around):Prop where
 hd:A.handled=none
 dp:A.depth + 3 * k + 5 < recursionLimit
 un:A.units + 16 * k + 200 < cLine
 gd:A.guards=some []
theorem cN.mono {j k:Nat}{A:Around}(r:cN k A)(h:j<=k):cN j A:=⟨r.hd,by have:=r.dp;omega,by have:=r.un;omega,r.gd⟩
theorem cN.deeper {k:Nat}{A:Around}(r:cN (k + 1) A)(env:Env):cN k (A.deeper env):=
 ⟨r.hd,by have:=r.dp;show A.depth + 1 + 3 * k + 5 < _;omega,by have:=r.un;show A.units + 3 + 16 * k + 200 < _;omega,r.gd⟩
theorem cN.in1 {k:Nat}{A:Around}(r:cN (k + 1) A):cN k A.in1:=
 ⟨r.hd,by have:=r.dp;show A.depth + 3 * k + 5 < _;omega,by have:=r.un;show A.units + 1 + 16 * k + 200 < _;omega,r.gd⟩
theorem OL {A:Around}{C:Addr}{us:List Value}{kw:List (Str×Value)}:(A.under (.builtin "type.__call__" ⟨.ref C::us,kw⟩)).depth=A.depth + 1:=by first | rfl | simp [Around.under,Code.weight,Code.isCreation,Code.isGuard,Code.isCaller,Code.frames,Code.isFrame,guardIds]
theorem OJ {A:Around}{C:Addr}{us:List Value}{kw:List (Str×Value)}:(A.under (.builtin "type.__call__" ⟨.ref C::us,kw⟩)).units=A.units + 1:=by first | rfl | simp [Around.under,Code.cUnits,Code.frames,Code.isFrame]
theorem M8 {A:Around}{C:Addr}{us:List Value}{kw:List (Str×Value)}:(A.under (.builtin "type.__call__" ⟨.ref C::us,kw⟩)).guards=A.guards:=by
 have h:(Code.builtin "type.__call__" ⟨.ref C::us,kw⟩).isGuard=false:=by show guardIds.contains "type.__call__" = false;decide +kernel
 simp [Around.under,Code.guards,h,pushGuards]
theorem cN.make {k:Nat}{A:Around}(r:cN (k + 1) A)(C:Addr)(us:List Value)(kw:List (Str×Value)):cN k (A.under (.builtin "type.__call__" ⟨.ref C::us,kw⟩)):=
 ⟨r.hd,by have:=r.dp;rw [OL];omega,by have:=r.un;rw [OJ];omega,M8.trans r.gd⟩
theorem cN.depth {k:Nat}{A:Around}(r:cN k A):A.depth < recursionLimit:=by have:=r.dp;omega
theorem cN.units {k:Nat}{A:Around}(r:cN k A):A.units + 64 < cLine:=by have:=r.un;omega
def ku:TA:=λ_ H Q=>Q [] H
noncomputable def gO (ta:TE)(tr:TA):TA:=fun σ H Q=>ta σ H λx H1=>tr σ H1 λxs H2=>Q (x::xs) H2
section
variable {X:Cx}{e:Expr}{es:List Expr}{te:TE}{t:TA}{pos:Pos}
theorem qP:PA X [] ku:=λ_ _ _ _ H Q I h=>Calls.spliced_nil ⟨[],H,I,.nil,h⟩
theorem VB (ha:PE X e te)(hr:PA X es t)(hs:starEach (e::es) X.env=(false,eval e X.env)::starEach es X.env:=by rfl):PA X (e::es) (gO te t):=by intro pos af s σ H Q I h;rw [hs];show wpAny _ _ (spliced ((false,eval e X.env)::backTo pos (starEach es X.env))) _ _ s;refine Calls.spliced_cons (bG (ha af s σ H _ I h) λu s1 ⟨x,H1,I1,r1,q1⟩=>?_);exact bG (hr pos af s1 σ H1 _ I1 q1) λus s2 ⟨xs,H2,I2,r2,q2⟩=>⟨x::xs,H2,I2,.cons r1 r2,q2⟩
noncomputable def tS (t:TA):TE:=fun σ H Q=>t σ H λxs H1=>xs.length<=sizeLine/\∀ p,H1 p=none->Q (.ref p) (upd H1 p (.tup xs))
noncomputable def tW (t:TA):TE:=fun σ H Q=>t σ H λxs H1=>xs.length<=sizeLine/\∀ p,H1 p=none->Q (.ref p) (upd H1 p (.lst xs))
theorem wg {x1}(h:PA X es t):PE X (.Tuple es x1 pos) (tS t):=by intro af s σ H Q I hq;refine wpAny_Tuple_spliced (bG (h pos af s σ H _ I hq) λus s1 ⟨xs,H1,I1,r,z,q⟩=>⟨by rw [<-r.length];exact z,?_⟩);have hf:H1 s1.heap.objs.size=none:=I1.bF.fresh (zD _);refine ⟨.ref s1.heap.objs.size,upd H1 s1.heap.objs.size (.tup xs),I1.laid (t':=s1.toks) (λb u e=>Heap.get?_push_of_some _ e) (zD _) ?_,rfl,q _ hf⟩;exact ⟨⟨z,vS⟩,us,r,⟨_,Heap.get?_push_size _ rfl,rfl,_,rfl⟩⟩
theorem wc (h:PA X es t):PE X (.List es pos) (tW t):=by intro af s σ H Q I hq;refine wpAny_List_spliced (bG (h pos af s σ H _ I hq) λus s1 ⟨xs,H1,I1,r,z,q⟩=>⟨by rw [<-r.length];exact z,?_⟩);have hf:H1 s1.heap.objs.size=none:=I1.bF.fresh (zD _);refine ⟨.ref s1.heap.objs.size,upd H1 s1.heap.objs.size (.lst xs),I1.laid (t':=s1.toks) (λb u e=>Heap.get?_push_of_some _ e) (zD _) ?_,rfl,q _ hf⟩;exact ⟨z,us,0,r,Heap.get?_push_size _ rfl⟩
end
abbrev Sp:=List V->Hp->VK->XK->Prop
abbrev Uw:=List Env->Hp->Shared->XK->Value->Shared->Prop
structure pQ (P:Program) (w:World) (K:PySem.W.Frag) (mg:Str->Option Value) (base:Heap) (A:Around) (outer:List Env) (s:Shared) (H:Hp):Prop where
 frames:A.frames=some outer
 mod:Mod K mg base
 bs:∀ b o,base.get? b=some o->s.heap.get? b=some o/\H b=none
 Ui:base.objs.size<=s.heap.objs.size
 jO:s.heap.FunFrames base outer
 WV:∀ b∈RP outer,H b=none
 bF:ic P w H s.heap
 bare:AllBare s.gens
noncomputable def CE (outer:List Env)(P:Program)(w:World)(H:Hp)(s:Shared)(Q:VK)(u:Value)(s':Shared):Prop:=
 ∃ v H',s'.os=s.os/\AllBare s'.gens/\Un (RP outer) [] H H' s.heap s'.heap/\ic P w H' s'.heap/\RelV v u/\Q v H'
noncomputable def CR (CX:Uw)(outer:List Env)(P:Program)(w:World)(H:Hp)(s:Shared)(Q:VK)(E:XK)(r:Result)(s':Shared):Prop:=
 match r with
 | .ok (.ret u)=>CE outer P w H s Q u s'
 | .ok _=>False
 | .error e=>CX outer H s E e s'
structure aZ (P:Program) (w:World) (K:PySem.W.Frag) (mg:Str->Option Value) (base:Heap) (CX:Uw) (k:Nat) (f:Addr) (fd:FuncData) (ps:List Str) (sp:Sp):Prop where
 len:∀ vs H Q E,sp vs H Q E->vs.length=ps.length
 run:∀ (A:Around) (outer:List Env) (s:Shared) (H:Hp) (args:Args) (us:List Value) (vs:List V) (Q:VK) (E:XK),cN k A->pQ P w K mg base A outer s H->BindsTo s fd args (ps.zip us)->Vals vs us->sp vs H Q E ->
  codeAny (model P w) A (.call (.ref f) args) (CR CX outer P w H s Q E) s
theorem pQ.make {P:Program}{w:World}{K:PySem.W.Frag}{mg:Str->Option Value}{base:Heap}{A:Around}{outer:List Env}{s:Shared}{H:Hp}(e:pQ P w K mg base A outer s H)(C:Addr)(us:List Value)(kw:List (Str×Value)) :
  pQ P w K mg base (A.under (.builtin "type.__call__" ⟨.ref C::us,kw⟩)) outer s H:=⟨by first | exact e.frames | (simpa [Around.under,Code.envs,Code.isFrame,pushEnvs] using e.frames),e.mod,e.bs,e.Ui,e.jO,e.WV,e.bF,e.bare⟩
theorem pQ.in1 {P:Program}{w:World}{K:PySem.W.Frag}{mg:Str->Option Value}{base:Heap}{A:Around}{outer:List Env}{s:Shared}{H:Hp}(e:pQ P w K mg base A outer s H) :
  pQ P w K mg base A.in1 outer s H:=⟨e.frames,e.mod,e.bs,e.Ui,e.jO,e.WV,e.bF,e.bare⟩
section
variable {X:Cx}{af:List (Addr×Obj)}{σ:St}{H:Hp}{s s':Shared}
theorem Inv.YM (I:Inv X af σ H s):pQ X.prog X.w X.K X.mg X.base X.A X.stack s H:=
 ⟨I.ok.frames,I.ok.mod,I.bs,yC I.ok.Ui I.sz,I.stack,I.Pj,I.bF,I.bare⟩
theorem Inv.after {Q:VK}{u:Value}(I:Inv X af σ H s)(h:CE X.stack X.prog X.w H s Q u s'):EP X af σ Q u s':=by obtain ⟨v,H',os,bare,un,bF,r,q⟩:=h;obtain ⟨hh,g,d,t,os'⟩:=s';obtain rfl:os'=s.os:=os;exact ⟨v,H',I.call (h':=hh) (g':=g) (d':=d) (t':=t) (ch:=[]) un bF bare (λb z=>absurd z (by simp)),r,q⟩
end
noncomputable def jt (sp:Sp)(uK:List V)(E:XK)(t:TA):TE:=fun σ H Q=>t σ H λvs H1=>sp (vs++uK) H1 Q E
noncomputable def ZG (C:Addr)(m:Str)(sp:Sp)(uK:List V)(E:XK)(ta:TE)(t:TA):TE:=fun σ H Q=>ta σ H λx H1=>∃ a dx fs,x=.ref a/\H1 a=some (.ins C dx fs)/\fs.lookup m=none /\
 t σ H1 λvs H2=>sp (x::(vs++uK)) H2 Q E
noncomputable def ZH (C:Addr)(sp:Sp)(uK:List V)(E:XK)(t:TA):TE:=fun σ H Q=>t σ H λvs H1=>∀ x dx,H1 x=none->H1 dx=none->dx≠x ->
 sp (.ref x::(vs++uK)) (upd (upd H1 dx (.own x)) x (.ins C dx [])) (λv H2=>v=.bL/\Q (.ref x) H2) E
noncomputable def Binds (K:PySem.W.Frag)(fd:FuncData)(ps:List Str)(ds:List Value):Prop:=
 ∀ (s:Shared) (us:List Value),K.In s.heap->(us++ds).length=ps.length->BindsTo s fd ⟨us,[]⟩ (ps.zip (us++ds))
theorem Binds.all {K:PySem.W.Frag}{fd:FuncData}{ps:List Str}(h:∀ us:List Value,us.length=ps.length->bindArgs fd ⟨us,[]⟩=pure (ps.zip us)):Binds K fd ps []:=λs us _ hl=>by
 rw [zy] at hl ⊢;exact .of_eq (h us hl)
noncomputable def Passes (CX:Uw)(X:Cx)(E:XK):Prop:=∀ (af:List (Addr×Obj)) (σ:St) (H:Hp) (s:Shared) (e:Value) (s':Shared),Inv X af σ H s->CX X.stack H s E e s'->X.xe e s'
section
variable {X:Cx}{CX:Uw}{k:Nat}{f C:Addr}{fd:FuncData}{ps:List Str}{sp:Sp}{uK:List V}{ds:List Value}{E:XK}{x m:Str}{p pos apos:Pos}{e o:Expr}{es:List Expr}{ta:TE}{t:TA}
theorem SG {af:List (Addr×Obj)}{σ:St}{H:Hp}{s:Shared}{Q:VK}{us:List Value}{vs:List V}(F:aZ X.prog X.w X.K X.mg X.base CX k f fd ps sp)(hr:cN k X.A)(hb:Binds X.K fd ps ds)(hd:Vals uK ds)(hx:Passes CX X E)
  (I:Inv X af σ H s) (r:Vals vs us) (h:sp (vs++uK) H Q E):wpAny (model X.prog X.w) X.A (call (.ref f) us) (EP X af σ Q) X.xe s:=by
 have r2:Vals (vs++uK) (us++ds):=r.append hd;have hl:(us++ds).length=ps.length:=by rw [<-r2.length];exact F.len _ _ _ _ h
 refine wpAny_call (codeAny_mono (F.run X.A X.stack s H ⟨us,[]⟩ (us++ds) (vs++uK) Q E hr I.YM (hb s us I.mj hl) r2 h) λr s' hq=>?_);cases r with
 | error e=>exact hx af σ H s e s' I hq
 | ok fl=>
  cases fl with
  | ret u=>exact I.after hq
  | next=>exact False.elim hq
  | brk=>exact False.elim hq
  | cont=>exact False.elim hq
theorem wG (F:aZ X.prog X.w X.K X.mg X.base CX k f fd ps sp)(hr:cN k X.A)(hg:Gl X x)(hm:X.mg x=some (.ref f))(hk:zF X.K (.ref f)=true)(hb:Binds X.K fd ps ds)(hd:Vals uK ds)(hx:Passes CX X E)
  (ha:PA X (e::es) t) (V5:(x == ("__debug__" : Str))=false:=by decide) (he:starEach (e::es) X.env=(false,eval e X.env)::starEach es X.env:=by rfl) (TJ:(backTo pos (starEach es X.env)).any (·.1)=false:=by rfl) :
  PE X (.Call (.Name x p) (e::es) [] pos) (jt sp uK E t):=by
 intro af s σ H Q I h;refine wpAny_Call_Name_kw (uu I hg hm ?_ V5);refine PySem.W.callWith_K (h₀:=X.base) I.ok.mod.kin hk (bG (ha pos af s σ H _ I h) λus s1 ⟨vs,H1,I1,r,q⟩=>⟨I1.mj,?_⟩) he TJ;exact SG F hr hb hd hx I1 r q
theorem fT {pl:Sem Bool}(he:PE X o ta)(c:Uv X.K C)(hm:Meth X.K C m f)(F:aZ X.prog X.w X.K X.mg X.base CX k f fd ps sp)(hr:cN k X.A)(hb:Binds X.K fd ps ds)(hd:Vals uK ds)(hx:Passes CX X E)(ha:PA X (e::es) t)
  (VU:starEach (e::es) X.env=(false,eval e X.env)::starEach es X.env:=by rfl) (TJ:(backTo pos (starEach es X.env)).any (·.1)=false:=by rfl)
  (ht:eval (.Call (.Attribute o m apos) (e::es) [] pos) X.env=(do
   let ov <- eval o X.env
   standAt apos.atName
   let (f,first) <- holding [ov] (getMethod ov m pl)
   callWith pos f first (backTo pos (starEach (e::es) X.env)) (backToKw pos (keywordEach [] X.env))):=by rfl) :
  PE X (.Call (.Attribute o m apos) (e::es) [] pos) (ZG C m sp uK E ta t):=by
 intro af s σ H Q I h;refine PySem.W.methodCall_KW (pl:=pl) (bG (he af s σ H _ I h) λu s1 z706=>?_) ht;obtain ⟨x,H1,I1,rx,a,dx,fs,ex,ea,l,q⟩:=z706;subst ex;obtain rfl:u=Value.ref a:=rx;refine OW I1 ea c hm l ?_;refine PySem.W.callWith_K (first:=[.ref a]) (h₀:=X.base) I.ok.mod.kin hm.kp (bG (ha pos af s1 σ H1 _ I1 q) λus s2 z707=>?_) VU TJ;obtain ⟨vs,H2,I2,r,q2⟩:=z707;refine ⟨I2.mj,?_⟩;exact SG (us:=.ref a::us) (vs:=.ref a::vs) F hr hb hd hx I2 (.cons rfl r) q2
structure Mk (K:PySem.W.Frag) (C f:Addr):Prop where
 makes:PySem.W.makesIn K C=true
 init:zu K (.ref C) "__init__" = some (some (.ref f))
 fn:yq K (.ref f)=true
 kp:zF K (.ref C)=true
theorem SE {af:List (Addr×Obj)}{σ:St}{H:Hp}{s:Shared}{Q:VK}{us:List Value}{vs:List V}(M:Mk X.K C f)(F:aZ X.prog X.w X.K X.mg X.base CX k f fd ps sp)(hr:cN (k + 1) X.A)(hb:Binds X.K fd ps ds)(hd:Vals uK ds)
  (hx:Passes CX X E) (I:Inv X af σ H s) (r:Vals vs us)
  (h:∀ x dx,H x=none->H dx=none->dx≠x->sp (.ref x::(vs++uK)) (upd (upd H dx (.own x)) x (.ins C dx [])) (λv H2=>v=.bL/\Q (.ref x) H2) E) :
  wpAny (model X.prog X.w) X.A (call (.ref C) us) (EP X af σ Q) X.xe s:=by
 have hq:=h (s.heap.objs.size + 1) s.heap.objs.size (I.bF.fresh (xP _)) (I.bF.fresh (zD _)) (zY (xa _));have I2:=Inv.made (C:=C) I;have r2:Vals (V.ref (s.heap.objs.size + 1)::(vs++uK)) (Value.ref (s.heap.objs.size + 1)::(us++ds)):=.cons rfl (r.append hd);have hl:(Value.ref (s.heap.objs.size + 1)::us++ds).length=ps.length:=by
  have e:=r2.length;rw [F.len _ _ _ _ hq] at e;exact e.symm
 refine wpAny_call (Tc (f:=f) I.mj M.makes M.init (beq_iff_eq.mp M.fn) (codeAny_mono (F.run _ X.stack _ _ ⟨Value.ref (s.heap.objs.size + 1)::us,[]⟩ (Value.ref (s.heap.objs.size + 1)::(us++ds)) _ _ E (hr.make C us [])
  (I2.YM.make C us []) (hb _ (Value.ref (s.heap.objs.size + 1)::us) I2.mj hl) r2 hq) λr s' hq'=>?_))
 cases r with
 | error e=>exact hx af σ _ _ e s' I2 hq'
 | ok fl=>
  cases fl with
  | ret u=>
   obtain ⟨v,H',I3,rv,ev,q3⟩:=I2.after hq';subst ev;exact ⟨rv,⟨V.ref (s.heap.objs.size + 1),H',I3,rfl,q3⟩⟩
  | next=>exact False.elim hq'
  | brk=>exact False.elim hq'
  | cont=>exact False.elim hq'
theorem Vz (M:Mk X.K C f)(F:aZ X.prog X.w X.K X.mg X.base CX k f fd ps sp)(hr:cN (k + 1) X.A)(hg:Gl X x)(hm:X.mg x=some (.ref C))(hb:Binds X.K fd ps ds)(hd:Vals uK ds)(hx:Passes CX X E)
  (ha:PA X (e::es) t) (V5:(x == ("__debug__" : Str))=false:=by decide) (he:starEach (e::es) X.env=(false,eval e X.env)::starEach es X.env:=by rfl) (TJ:(backTo pos (starEach es X.env)).any (·.1)=false:=by rfl) :
  PE X (.Call (.Name x p) (e::es) [] pos) (ZH C sp uK E t):=by
 intro af s σ H Q I h;refine wpAny_Call_Name_kw (uu I hg hm ?_ V5);refine PySem.W.callWith_K (h₀:=X.base) I.ok.mod.kin M.kp (bG (ha pos af s σ H _ I h) λus s1 ⟨vs,H1,I1,r,q⟩=>⟨I1.mj,?_⟩) he TJ;exact SE M F hr hb hd hx I1 r q
end
section
variable {X:Cx}{CX:Uw}{k:Nat}{f C:Addr}{fd:FuncData}{ps ks:List Str}{sp:Sp}{E:XK}{x m:Str}{p pos apos aha:Pos}{e o:Expr}{es:List Expr}{kws:List Keyword}{te ta:TE}{t tk:TA}{nm:Option Str}
variable {g:List Value->List Value->List Value}{gV:List V->List V->List V}
end
structure aF (N P:List Str) (sc:Scope):Prop where
 kind:sc.kind=.function
 co:sc.isCoroutine=false
 gen:sc.isGenerator=false
 nd:N.Nodup
 pre:N.take P.length=P
 par:∀ x∈P,sc.names.lookup x=some .local\/sc.names.lookup x=some .cell
 X0:∀ y∈sc.names,y.2≠.free
theorem sX {kindOf:Str->Option NameKind}{x:Str}:∀ {binds:List (Str×Value)}{m:Str->Option Value},(∀ v,(x,v) ∉ binds)->bindL kindOf binds m x=m x
 | [],_,_=>rfl
 | (n,v)::r,m,h=>by
  unfold bindL;rw [sX λw hw=>h w (zn _ hw)];split
  ·have:x≠n:=by rintro rfl;exact h v yF
   simp [this]
  ·rfl
theorem sZ {kindOf:Str->Option NameKind}{x:Str}:∀ {binds:List (Str×Value)}{m:Str->Option Value},(∀ v,(x,v) ∉ binds)->bindC kindOf binds m x=m x
 | [],_,_=>rfl
 | (n,v)::r,m,h=>by
  unfold bindC;rw [sZ λw hw=>h w (zn _ hw)];split
  ·rfl
  ·have:x≠n:=by rintro rfl;exact h v yF
   simp [this]
theorem sY {kindOf:Str->Option NameKind}{x:Str}{v:Value}:∀ {P:List Str}{vs:List Value}{i:Nat}{m:Str->Option Value},P.Nodup->P[i]?=some x->vs[i]?=some v->kindOf x=some .local ->
  bindL kindOf (P.zip vs) m x=some v
 | [],_,_,_,_,h,_,_=>by simp at h
 | _::_,[],_,_,_,_,h,_=>by simp at h
 | p::P,w::vs,0,m,nd,h1,h2,hk=>by
  simp at h1 h2;subst h1;subst h2;show bindL kindOf ((p,w)::P.zip vs) m p=_;unfold bindL;rw [sX λv hv=>(zw.mp nd).1 (List.of_mem_zip hv).1,if_pos hk];simp
 | p::P,w::vs,i + 1,m,nd,h1,h2,hk=>by
  show bindL kindOf ((p,w)::P.zip vs) m x=_;unfold bindL;exact sY (i:=i) (zw.mp nd).2 (by simpa using h1) (by simpa using h2) hk
theorem tw {kindOf:Str->Option NameKind}{x:Str}{v:Value}:∀ {P:List Str}{vs:List Value}{i:Nat}{m:Str->Option Value},P.Nodup->P[i]?=some x->vs[i]?=some v->kindOf x≠some .local ->
  bindC kindOf (P.zip vs) m x=some v
 | [],_,_,_,_,h,_,_=>by simp at h
 | _::_,[],_,_,_,_,h,_=>by simp at h
 | p::P,w::vs,0,m,nd,h1,h2,hk=>by
  simp at h1 h2;subst h1;subst h2;show bindC kindOf ((p,w)::P.zip vs) m p=_;unfold bindC;rw [sZ λv hv=>(zw.mp nd).1 (List.of_mem_zip hv).1,if_neg hk];simp
 | p::P,w::vs,i + 1,m,nd,h1,h2,hk=>by
  show bindC kindOf ((p,w)::P.zip vs) m x=_;unfold bindC;exact tw (i:=i) (zw.mp nd).2 (by simpa using h1) (by simpa using h2) hk
noncomputable def start (N:List Str)(vs:List V):St:=vs.map some++List.replicate (N.length - vs.length) none
noncomputable def gA (CX:Uw)(P:Program)(w:World)(K:PySem.W.Frag)(mg:Str->Option Value)(base:Heap)(N:List Str)(qual:Str)(scope:Scope)(f:Addr)(cd:Value)(A:Around)(outer:List Env)(s:Shared)(H:Hp)(E:XK):Cx where
 prog:=P
 w:=w
 K:=K
 mg:=mg
 base:=base
 A:=A.deeper (envOfC qual scope s.heap.objs.size f cd)
 N:=N
 dh:=s
 Us:=H
 env:=envOfC qual scope s.heap.objs.size f cd
 outer:=outer
 stack:=envOfC qual scope s.heap.objs.size f cd::outer
 ex:=[]
 calm:=true
 fn:=λ_=>true
 pn:=[]
 xe:=λe s'=>wpAny (model P w) (A.deeper (envOfC qual scope s.heap.objs.size f cd)) (leaving (envOfC qual scope s.heap.objs.size f cd) e) (λ_ QD=>CX outer H s E e QD) (λe' QD=>CX outer H s E e' QD) s'
theorem NJ {sc:Scope}{n:Nat}{x:Str}(h:sc.names.lookup x=some .cell):∃ c,(cellsFrom n sc.names []).lookup x=some c:=by have q:=PySem.W.cellsFrom_some sc.names n [] (.inl h);exact Option.isSome_iff_exists.mp q
theorem sJ {CX:Uw}{P:Program}{w:World}{K:PySem.W.Frag}{mg:Str->Option Value}{base:Heap}{N ps:List Str}{qual:Str}{scope:Scope}{f:Addr}{cd:Value}{A:Around}{outer:List Env}{s s1:Shared}{H:Hp}{E:XK}{us:List Value}{vs:List V}
  (S:aF N ps scope) (hd:A.handled=none) (e0:pQ P w K mg base A outer s H) (hl:vs.length=ps.length) (r:Vals vs us)
  (x:InCallC s s.heap.objs.size (bindL (envOfC qual scope s.heap.objs.size f cd).kindOf (ps.zip us) λ_=>none) (cellsFrom (s.heap.objs.size + 1) scope.names []) (bindC (envOfC qual scope s.heap.objs.size f cd).kindOf (ps.zip us) λ_=>none) s1) :
  Inv (gA CX P w K mg base N qual scope f cd A outer s H E) [] (start N vs) H s1:=by
 have TJ:ps.length<=N.length:=by have:=congrArg List.length S.pre;rw [zV] at this;omega
 obtain ⟨h1,tk,rfl,hk⟩:=x.done;have noA:∀ b:Addr,b ∉ (gA CX P w K mg base N qual scope f cd A outer s H E).ex:=λb z=>absurd (show b∈([]:List Addr) from z) (by simp);refine ⟨⟨e0.mod,S.kind,rfl,rfl,zD _,λy z c h1 h2=>?_,λy hy=>?_,λy c _ h=>?_,λ_=>hd,Around.frames_deeper e0.frames,.inr ⟨rfl,rfl⟩,λb z=>absurd z (noA b),e0.bs,e0.Ui,λb _ _=>noA b,λb z=>absurd z (noA b),e0.jO,e0.WV⟩,
  rfl,e0.bare,Un.kept hk,⟨_,x.toInCall.ns,λi y v h1 h2 h3=>?_⟩,λy c h=>⟨_,x.cell y c h⟩,e0.bF.fresh (zD _),λy c h=>?_,λp hp=>absurd (show p∈([]:List (Addr×Obj)) from hp) (by simp),e0.bF.kept hk,?_⟩
 ·exact name_of_addr x.apart (yX h1) (yX h2)
 ·have hy:scope.names.lookup y=some .cell\/scope.names.lookup y=some .free:=hy;rcases hy with hy | hy
  ·exact NJ hy
  ·exact absurd rfl (S.X0 _ (yX hy))
 ·exact xY (x.above y c (yX h))
 ·have hi:i < vs.length:=by
   unfold start at h2;by_cases hi:i < vs.length
   ·exact hi
   ·rw [zZ (by simpa using hi)] at h2;rw [List.getElem?_replicate] at h2;split at h2 <;> cases h2
  have ha:vs[i]?=some v:=by
   unfold start at h2;rw [zX (by simpa using hi),zS] at h2;cases e:vs[i]? with
   | none=>rw [e] at h2;cases h2
   | some a=>rw [e] at h2;cases h2;rfl
  obtain ⟨u,hu,rv⟩:=r.get ha;have hp:ps[i]?=some y:=by
   rw [<-S.pre,List.getElem?_take_of_lt (by omega)];exact h1
  have ndP:ps.Nodup:=by rw [<-S.pre];exact S.nd.sublist (List.take_sublist _ _)
  refine ⟨u,rv,?_⟩;rcases S.par y (zB hp) with k | k
  ·exact .inl ⟨k,sY ndP hp hu k⟩
  ·obtain ⟨c,e⟩:=NJ (n:=s.heap.objs.size + 1) k;refine .inr ⟨.inl k,c,e,?_⟩;have q:=x.cell y c e;rw [tw ndP hp hu (by show scope.names.lookup y≠_;rw [k];decide)] at q;exact q
 ·exact e0.bF.fresh (xY (x.above y c (yX h)))
 ·unfold start;show _=N.length;rw [zG,zA,List.length_replicate];omega
theorem WW {CX:Uw}{P:Program}{w:World}{K:PySem.W.Frag}{mg:Str->Option Value}{base:Heap}{k:Nat}{f:Addr}{name qual:Str}{params:Arguments}{body:List Stmt}{scope:Scope}{dV kV doc pm bW ct oc:Value}{an od:Option Addr}
  {VD:Array (Option Value)}{N ps:List Str}{sp:Sp} (lk:K.lookup f=some ⟨oc,od,.func (xm name qual params body scope dV kV doc pm an bW ct),VD⟩) (Nl:PySem.W.codeIn K bW qual=true) (S:aF N ps scope)
  (len:∀ vs H Q E,sp vs H Q E->vs.length=ps.length)
  (jL:∀ (A:Around) (outer:List Env) (s:Shared) (H:Hp) (vs:List V) (Q:VK) (E:XK),cN k (A.deeper (envOfC qual scope s.heap.objs.size f bW))->sp vs H Q E ->
   ∃ t,tE (gA CX P w K mg base N qual scope f bW A outer s H E) body t/\t { nx:=λ_ H'=>Q .bL H',rt:=Q } (start N vs) H) :
  aZ P w K mg base CX (k + 1) f (xm name qual params body scope dV kV doc pm an bW ct) ps sp:=by
 refine ⟨len,λA outer s H args us vs Q E hr e0 hb r OQ=>?_⟩;have hl:=len _ _ _ _ OQ;have KX:K.In s.heap:=e0.mod.kin.keeps λb o e=>(e0.bs b o e).1;have lim:s.heap.NoLimit:=e0.mod.nolimit.keeps λb o e=>(e0.bs b o e).1;have TQ:∀ y∈ps.zip us,scope.names.lookup y.1=some .local\/(scope.names.lookup y.1=some .cell/\((cellsFrom (s.heap.objs.size + 1) scope.names []).lookup y.1).isSome=true):=λ⟨n,v⟩ hy=>by
  rcases S.par n (List.of_mem_zip hy).1 with q | q
  ·exact .inl q
  ·exact .inr ⟨q,PySem.W.cellsFrom_some _ _ _ (.inl q)⟩
 refine codeAny_call_function hr.depth (KX _ _ lk) rfl S.co S.gen rfl (PySem.W.codeRec_of KX Nl) (hb _ _ _ _ ?_);refine wpAny_newFunctionEnv_cells S.kind TQ λenv he s1 x=>?_;subst he;refine ⟨lim.keeps x.toInCall.keep,codeAny_func ?_⟩;obtain ⟨t,ht,hq⟩:=jL A outer s H vs Q E (hr.deeper _) OQ;have I:Inv (gA CX P w K mg base N qual scope f bW A outer s H E) [] (start N vs) H s1:=sJ S hr.hd e0 hl r x;refine wpAny_mono (ht [] s1 (start N vs) H _ I hq) (λfl s' hs=>?_) λe s' hs=>hs;have fin:∀ {cA:St}{H':Hp}{v:V}{u:Value},Inv (gA CX P w K mg base N qual scope f bW A outer s H E) [] cA H' s'->RelV v u->Q v H'->CE outer P w H s Q u s':=
  λ{cA H' v u} J rv q=>⟨v,H',J.os,J.bare,J.base,J.bF,rv,q⟩
 cases fl with
 | ret u=>
  obtain ⟨v,cA,H',J,rv,q⟩:=hs;exact fin J rv q
 | next=>
  obtain ⟨cA,H',J,q⟩:=hs;exact fin (v:=V.bL) (u:=Value.none) J rfl q
 | brk=>
  obtain ⟨_,_,_,q⟩:=hs;exact False.elim q
 | cont=>
  obtain ⟨_,_,_,q⟩:=hs;exact False.elim q
section
variable {X:Cx}{x:Str}{p pos:Pos}{e:Expr}{es:List Expr}{t:TA}{id T:String}{r:List V->Hp->VK->Prop}
noncomputable def Sb (r:List V->Hp->VK->Prop)(t:TA):TE:=fun σ H Q=>t σ H λvs H1=>r vs H1 Q
theorem wP (hc:dm X (.builtin id) r)(hg:Gl X x)(hm:X.mg x=none)(hv:bootBuiltins x=some (.builtin id))(ha:PA X (e::es) t)(hn:x ≠ "__name__" := by decide)(V5:(x == ("__debug__" : Str))=false:=by decide)
  (he:starEach (e::es) X.env=(false,eval e X.env)::starEach es X.env:=by rfl) (TJ:(backTo pos (starEach es X.env)).any (·.1)=false:=by rfl):PE X (.Call (.Name x p) (e::es) [] pos) (Sb r t):=by
 intro af s σ H Q I h;refine wpAny_Call_Name_kw (fY I hg hm hv ?_ hn V5);exact PyProof.Rows.callWith_builtin1 (bG (ha pos af s σ H _ I h) λus s1 ⟨vs,H1,I1,r1,q1⟩=>hc af s1 σ H1 vs us Q I1 r1 q1) he TJ
theorem qY (hc:dm X (.type T) r)(hg:Gl X x)(hm:X.mg x=none)(hv:bootBuiltins x=some (.type T))(ha:PA X (e::es) t)(hn:x ≠ "__name__" := by decide)(V5:(x == ("__debug__" : Str))=false:=by decide)
  (he:starEach (e::es) X.env=(false,eval e X.env)::starEach es X.env:=by rfl) (TJ:(backTo pos (starEach es X.env)).any (·.1)=false:=by rfl):PE X (.Call (.Name x p) (e::es) [] pos) (Sb r t):=by
 intro af s σ H Q I h;refine wpAny_Call_Name_kw (fY I hg hm hv ?_ hn V5);exact yf (bG (ha pos af s σ H _ I h) λus s1 ⟨vs,H1,I1,r1,q1⟩=>hc af s1 σ H1 vs us Q I1 r1 q1) he TJ
theorem OE (hc:dm X (.type T) r)(hg:Gl X x)(hm:X.mg x=none)(hv:bootBuiltins x=some (.type T))(hn:x ≠ "__name__" := by decide)(V5:(x == ("__debug__" : Str))=false:=by decide) :
  PE X (.Call (.Name x p) [] [] pos) (Sb r ku):=by
 intro af s σ H Q I h;refine wpAny_Call_Name_kw (fY I hg hm hv ?_ hn V5);exact PyProof.Rows.callWith_type0 (hc af s σ H [] [] Q I .nil h)
end
section
variable {κ:Type} [DecidableEq κ]
noncomputable def cO (aN:List (κ×V))(k:κ):Option V:=(aN.find? λkv=>decide (kv.1=k)).map (·.2)
noncomputable def putK (aN:List (κ×V))(k:κ)(v:V):List (κ×V):=
 if (aN.any λkv=>decide (kv.1=k))=true then aN.map (λkv=>if kv.1=k then (kv.1,v) else kv) else aN++[(k,v)]
theorem qS {p:κ×V}{r:List (κ×V)}{k:κ}(e:p.1=k):cO (p::r) k=some p.2:=by simp [cO,xT,e]
theorem qN {p:κ×V}{r:List (κ×V)}{k:κ}(e:¬ p.1=k):cO (p::r) k=cO r k:=by simp [cO,xT,e]
theorem fu (k:κ):∀ aN:List (κ×V),(aN.any λkv=>decide (kv.1=k))=(cO aN k).isSome
 | []=>rfl
 | p::r=>by
  rw [xh];by_cases e:p.1=k
  ·simp only [qS e,decide_eq_true e,Bool.true_or,Option.isSome_some]
  ·rw [qN e,decide_eq_false e,Bool.false_or];exact fu k r
theorem vp (k j:κ)(y:V):∀ aN:List (κ×V),cO (aN.map λkv=>if kv.1=k then (kv.1,y) else kv) j=(cO aN j).map λx=>if j=k then y else x
 | []=>rfl
 | p::r=>by
  have ih:=vp k j y r;rw [zc];by_cases h:p.1=k
  ·rw [if_pos h];by_cases e:p.1=j
   ·rw [qS (p:=(p.1,y)) e,qS e,xR,if_pos (e.symm.trans h)]
   ·rw [qN (p:=(p.1,y)) e,qN e,ih]
  ·rw [if_neg h];by_cases e:p.1=j
   ·rw [qS (p:=p) e,qS e,xR,if_neg (λz=>h (e.trans z))]
   ·rw [qN (p:=p) e,qN e,ih]
theorem rP (k j:κ)(y:V):∀ aN:List (κ×V),cO aN k=none->cO (aN++[(k,y)]) j=if j=k then some y else cO aN j
 | [],_=>by
  by_cases e:k=j
  ·rw [if_pos e.symm];exact qS (p:=(k,y)) e
  ·rw [if_neg (λz=>e z.symm)];exact qN (p:=(k,y)) e
 | p::r,hn=>by
  rw [yU];have hk:¬ p.1=k:=λz=>by rw [qS z] at hn;cases hn
  rw [qN hk] at hn;have ih:=rP k j y r hn;by_cases e:p.1=j
  ·rw [qS e,qS e,if_neg (λz=>hk (e.trans z))]
  ·rw [qN e,qN e,ih]
theorem vo (aN:List (κ×V))(k j:κ)(y:V):cO (putK aN k y) j=if j=k then some y else cO aN j:=by
 unfold putK;by_cases a:(aN.any λkv=>decide (kv.1=k))=true
 ·rw [if_pos a,vp];rw [fu] at a;by_cases e:j=k
  ·obtain ⟨x,hx⟩:=Option.isSome_iff_exists.mp a;rw [if_pos e,e,hx,xR,if_pos rfl]
  ·rw [if_neg e];cases cO aN j with
   | none=>rfl
   | some x=>rw [xR,if_neg e]
 ·rw [if_neg a];refine rP k j y aN ?_;rw [fu] at a;cases q:cO aN k with
  | none=>rfl
  | some x=>rw [q] at a;exact (a rfl).elim
theorem eF (aN:List (κ×V))(k:κ)(v:V):(putK aN k v).length<=aN.length + 1:=by
 unfold putK;split
 ·rw [zA];omega
 ·rw [zG,zU,yE];omega
theorem iJ.fJ {o:Option V}{u:Option Value}(r:iJ o u):o.isSome=u.isSome:=by
 cases o with
 | none=>cases u with
  | none=>rfl
  | some _=>exact (show False from r).elim
 | some _=>cases u with
  | none=>exact (show False from r).elim
  | some _=>rfl
theorem KV.val {aN:List (κ×V)}{vs:List (κ×Value)}(r:KV aN vs)(k:κ):iJ (cO aN k) (valueAt vs k):=by
 unfold KV at r;induction r with
 | nil=>exact True.intro
 | @cons p q ps qs h t ih=>
  obtain ⟨h1,h2⟩:=h;by_cases e:p.1=k
  ·have e':q.1=k:=h1.symm.trans e;have b:valueAt (q::qs) k=some q.2:=by simp [valueAt,xT,e']
   rw [qS e,b];exact h2
  ·have e':¬ q.1=k:=λz=>e (h1.trans z);have b:valueAt (q::qs) k=valueAt qs k:=by simp [valueAt,xT,e']
   rw [qN e,b];exact ih
theorem KV.any {aN:List (κ×V)}{vs:List (κ×Value)}(r:KV aN vs)(k:κ):(aN.any λkv=>decide (kv.1=k))=vs.any λkv=>decide (kv.1=k):=by
 unfold KV at r;induction r with
 | nil=>rfl
 | cons h t ih=>rw [xh,xh,ih,h.1]
theorem KV.XJ {aN:List (κ×V)}{vs:List (κ×Value)}(r:KV aN vs)(k:κ){y:V}{u:Value}(ry:RelV y u) :
  KV (aN.map λkv=>if kv.1=k then (kv.1,y) else kv) (vs.map λkv=>if kv.1=k then (kv.1,u) else kv):=by
 unfold KV at r ⊢;induction r with
 | nil=>exact .nil
 | @cons p q ps qs h t ih=>
  rw [zc,zc];refine .cons ?_ ih;obtain ⟨h1,h2⟩:=h;by_cases e:p.1=k
  ·rw [if_pos e,if_pos (h1.symm.trans e)];exact ⟨h1,ry⟩
  ·rw [if_neg e,if_neg (λz=>e (h1.trans z))];exact ⟨h1,h2⟩
theorem KV.put {aN:List (κ×V)}{vs:List (κ×Value)}(r:KV aN vs)(k:κ){y:V}{u:Value}(ry:RelV y u):KV (putK aN k y) (stored vs k u):=by
 unfold putK stored;rw [r.any k];by_cases e:(vs.any λkv=>decide (kv.1=k))=true
 ·rw [if_pos e,if_pos e];exact r.XJ k ry
 ·rw [if_neg e,if_neg e];exact Paired.snoc r ⟨rfl,ry⟩
theorem KV.length {aN:List (κ×V)}{vs:List (κ×Value)}(r:KV aN vs):aN.length=vs.length:=Paired.length r
end
theorem sG {P:Program}{w:World}{k:Key}{u:Value}(r:RelV (kV k) u):(aW P w).is k u=true:=by
 cases k with
 | inl i=>obtain ⟨t,e⟩:=(show ∃ t,u=Value.int i t from r);subst e;exact vY P w i t
 | inr x=>obtain ⟨t,e⟩:=(show ∃ t,u=Value.str x t from r);subst e;exact vX P w x t
theorem sI {P:Program}{w:World}:∀ {ks:List Key}{us:List Value},Vals (ks.map kV) us->ItemsAre (aW P w) ks us
 | [],_,r=>by rw [yN] at r;cases r;exact .nil
 | k::ks,_,r=>by
  rw [zc] at r;cases r with
  | cons h t=>exact .cons (sG h) (sI t)
noncomputable abbrev KT (H:Hp):List (List Key×V)->List (List Key×Addr×Value)->Prop:=Paired λp q=>p.1=q.1/\H q.2.1=some (.tup (p.1.map kV))/\RelV p.2 q.2.2
theorem KT.val {H:Hp}{aN:List (List Key×V)}{xs:List (List Key×Addr×Value)}(r:KT H aN xs)(k:List Key):iJ (cO aN k) ((atKey xs k).map (·.2)):=by
 induction r with
 | nil=>exact True.intro
 | @cons p q ps qs h t ih=>
  obtain ⟨h1,_,h2⟩:=h;by_cases e:p.1=k
  ·have e':q.1=k:=h1.symm.trans e;have b:atKey (q::qs) k=some q.2:=by simp [atKey,xT,e']
   rw [qS e,b];exact h2
  ·have e':¬ q.1=k:=λz=>e (h1.trans z);have b:atKey (q::qs) k=atKey qs k:=by simp [atKey,xT,e']
   rw [qN e,b];exact ih
theorem KT.XJ {H:Hp}{aN:List (List Key×V)}{xs:List (List Key×Addr×Value)}(r:KT H aN xs)(k:List Key){y:V}{u:Value}(ry:RelV y u) :
  KT H (aN.map λkv=>if kv.1=k then (kv.1,y) else kv) (xs.map (putAt k u)):=by
 induction r with
 | nil=>exact .nil
 | @cons p q ps qs h t ih=>
  rw [zc,zc];refine .cons ?_ ih;obtain ⟨h1,h2,h3⟩:=h;unfold putAt;by_cases e:p.1=k
  ·rw [if_pos e,if_pos (h1.symm.trans e)];exact ⟨h1,h2,ry⟩
  ·rw [if_neg e,if_neg (λz=>e (h1.trans z))];exact ⟨h1,h2,h3⟩
theorem KT.put {H:Hp}{aN:List (List Key×V)}{xs:List (List Key×Addr×Value)}(r:KT H aN xs)(k:List Key){b:Addr}{y:V}{u:Value}(hb:H b=some (.tup (k.map kV)))(ry:RelV y u) :
  KT H (putK aN k y) (storedH xs k b u):=by
 have e:(aN.any λkv=>decide (kv.1=k))=(atKey xs k).isSome:=by
  rw [fu,(r.val k).fJ,Option.isSome_map]
 unfold putK storedH;rw [e];by_cases q:(atKey xs k).isSome=true
 ·rw [if_pos q,if_pos q];exact r.XJ k ry
 ·rw [if_neg q,if_neg q];exact Paired.snoc r ⟨rfl,hb,ry⟩
theorem KT.keeps {H H':Hp}{aN:List (List Key×V)}{xs:List (List Key×Addr×Value)}(r:KT H aN xs)(ht:∀ b ys,H b=some (.tup ys)->H' b=some (.tup ys)):KT H' aN xs:=
 Paired.X8 r λ_ _ z=>⟨z.1,ht _ _ z.2.1,z.2.2⟩
section
variable {P:Program}{w:World}{H:Hp}{h:Heap}{a:Addr}
theorem WD {u:HO}(ok:ic P w H h)(e:Rd H a u):bJ P w H h a u:=e.ok ok
theorem sR {aN:List (Key×V)}(ok:ic P w H h)(e:Rd H a (.dK aN)):aN.length<=sizeLine/\(a == sysModules)=false/\∃ vs,KV aN vs/\h.DictOf (aW P w) a vs:=
 show bJ P w H h a (.dK aN) from WD ok e
theorem W0 {aN:List (Key×V)}(ok:ic P w H h)(e:H a=some (.dK aN)):aN.length<=sizeLine/\(a == sysModules)=false/\∃ vs,KV aN vs/\h.DictOf (aW P w) a vs:=sR ok (.inl e)
theorem gS {ks:List Key}(ok:ic P w H h)(e:H a=some (.tup (ks.map kV))):(tupleKind (aW P w)).is h ks a:=by obtain ⟨_,aH,r,o,h1,h2,n,h3⟩:=(show bJ P w H h a (.tup (ks.map kV)) from ok a _ e);exact ⟨o,aH.toArray,n,h1,h2,h3,by simpa using sI r⟩
theorem Nu {aN:List (List Key×V)}(ok:ic P w H h)(e:Rd H a (.dT aN)):aN.length<=sizeLine/\(a == sysModules)=false /\
  ∃ xs,KT H aN xs/\h.DictOfH (tupleKind (aW P w)) a xs:=by
 obtain ⟨z,y,xs,r,o,es,ep,h1,h2,h3,h4,h5⟩:=(show bJ P w H h a (.dT aN) from WD ok e);refine ⟨z,y,xs,r,o,es,ep,h1,h2,h3,h4,λx hx=>?_,h5⟩;have all:∀ {l:List (List Key×V)}{m:List (List Key×Addr×Value)},KT H l m->∀ x∈m,(tupleKind (aW P w)).is h x.1 x.2.1:=by
  intro l m q;induction q with
  | nil=>intro x hx;exact nomatch hx
  | @cons p q ps qs hq t ih=>
   intro x hx;rcases zH.mp hx with e | hx
   ·subst e;exact gS ok (by rw [<-hq.1];exact hq.2.1)
   ·exact ih x hx
 exact all r x hx
theorem aa2 {aN:List (List Key×V)}(ok:ic P w H h)(e:H a=some (.dT aN)):aN.length<=sizeLine/\(a == sysModules)=false /\
  ∃ xs,KT H aN xs/\h.DictOfH (tupleKind (aW P w)) a xs:=Nu ok (.inl e)
end
noncomputable def iK (H:Hp)(a:Addr)(y:V)(r:Option V):Prop:=
 (∃ aN k,Rd H a (.dK aN)/\y=kV k/\r=cO aN k)\/∃ aN k b,Rd H a (.dT aN)/\y=.ref b/\H b=some (.tup (k.map kV))/\r=cO aN k
noncomputable def RG (H:Hp)(a:Addr)(y v:V)(H':Hp):Prop:=
 (∃ aN k,H a=some (.dK aN)/\y=kV k/\aN.length < sizeLine/\H'=upd H a (.dK (putK aN k v))) \/
 ∃ aN k b,H a=some (.dT aN)/\y=.ref b/\H b=some (.tup (k.map kV))/\aN.length < sizeLine/\H'=upd H a (.dT (putK aN k v))
theorem iK.k {H:Hp}{a:Addr}{aN:List (Key×V)}{k:Key}(e:H a=some (.dK aN)):iK H a (kV k) (cO aN k):=.inl ⟨aN,k,.inl e,rfl,rfl⟩
theorem RG.k {H:Hp}{a:Addr}{aN:List (Key×V)}{k:Key}{v:V}(e:H a=some (.dK aN))(hl:aN.length < sizeLine):RG H a (kV k) v (upd H a (.dK (putK aN k v))):=.inl ⟨aN,k,e,rfl,hl,rfl⟩
section
variable {X:Cx}{af:List (Addr×Obj)}{σ:St}{H:Hp}{s:Shared}{a:Addr}{y v:V}{u r:Value}{o:Option V}{A:Around}{E:Value->Shared->Prop}
theorem Inv.big (I:Inv X af σ H s):sysModules < s.heap.objs.size:=by have h:mainGlobals < s.heap.objs.size:=(I.mod.glob.keeps I.bk).lt;exact Nat.lt_trans (by decide) h
theorem Rw {Q:Value->Shared->Prop}(hu:A.units + 1 < cLine)(I:Inv X af σ H s)(g:iK H a y (some v))(ry:RelV y u)(h:∀ w' s',Inv X af σ H s'->RelV v w'->Q w' s') :
  wpAny (model X.prog X.w) A (getItem (.ref a) u) Q E s:=by
 rcases g with ⟨aN,k,e,ey,l⟩ | ⟨aN,k,b,e,ey,eb,l⟩
 ·subst ey;obtain ⟨z,hd,vs,rel,dd⟩:=sR I.bF e;obtain ⟨w',hw,rT⟩:=iJ.some_of (v:=v) (o:=valueAt vs k) (by rw [l];exact rel.val k);exact wpAny_getItem_of (sG ry) dd.mapOf hw (h w' _ (I.tok _) rT)
 ·subst ey;cases (show u=Value.ref b from ry);obtain ⟨z,hd,xs,rel,dd⟩:=Nu I.bF e;obtain ⟨w',hw,rT⟩:=iJ.some_of (v:=v) (o:=(atKey xs k).map (·.2)) (by rw [l];exact rel.val k);obtain ⟨p,hp,Zi⟩:=Option.map_eq_some_iff.mp hw;refine wpAny_getItem_heap (tupleKind_room_in1 hu) (gS I.bF eb) dd hp ?_;rw [Zi];exact h w' _ (I.tok _) rT
theorem adO {Q:Value->Shared->Prop}(hu:A.units + 1 < cLine)(I:Inv X af σ H s)(g:iK H a y o)(ry:RelV y u)(h:∀ s',Inv X af σ H s'->Q (.bool o.isSome) s') :
  wpAny (model X.prog X.w) A (compareOp .In u (.ref a)) Q E s:=by
 rcases g with ⟨aN,k,e,ey,l⟩ | ⟨aN,k,b,e,ey,eb,l⟩
 ·subst ey;obtain ⟨z,hd,vs,rel,dd⟩:=sR I.bF e;refine wpAny_in_of (sG ry) hd dd.mapOf ?_;rw [<-(rel.val k).fJ,<- l];exact h _ (I.tok _)
 ·subst ey;cases (show u=Value.ref b from ry);obtain ⟨z,hd,xs,rel,dd⟩:=Nu I.bF e;refine wpAny_in_heap (tupleKind_room_in1 hu) (gS I.bF eb) hd dd ?_;have q:=(rel.val k).fJ;rw [Option.isSome_map] at q;rw [<-q,<- l];exact h _ (I.tok _)
theorem Wi {Q:Value->Shared->Prop}(hu:A.units + 1 < cLine)(I:Inv X af σ H s)(g:iK H a y o)(ry:RelV y u)(h:∀ s',Inv X af σ H s'->Q (.bool (!o.isSome)) s') :
  wpAny (model X.prog X.w) A (compareOp .NotIn u (.ref a)) Q E s:=by
 rcases g with ⟨aN,k,e,ey,l⟩ | ⟨aN,k,b,e,ey,eb,l⟩
 ·subst ey;obtain ⟨z,hd,vs,rel,dd⟩:=sR I.bF e;refine wpAny_notIn_of (sG ry) hd dd.mapOf ?_;rw [<-(rel.val k).fJ,<- l];exact h _ (I.tok _)
 ·subst ey;cases (show u=Value.ref b from ry);obtain ⟨z,hd,xs,rel,dd⟩:=Nu I.bF e;refine wpAny_notIn_heap (tupleKind_room_in1 hu) (gS I.bF eb) hd dd ?_;have q:=(rel.val k).fJ;rw [Option.isSome_map] at q;rw [<-q,<- l];exact h _ (I.tok _)
theorem uM {h':Heap}{t':Nat}{ob:HO}(I:Inv X af σ H s)(mu:Mut (H a))(hs:Heap.SameBut a s.heap h')(he:∃ q,h'.get? a=some q)(new:bJ X.prog X.w (upd H a ob) h' a ob) :
  Inv X af σ (upd H a ob) { s with heap:=h',toks:=t' }:=
 I.write (x:=a) (e:=a) mu (.inl rfl) (λb q hb z=>(hs.2 b hb).trans z) he new
theorem T9 {P:Program}{w:World}{H':Hp}{h':Heap}{aN:List (Key×V)}{vs:List (Key×Value)}(z:aN.length<=sizeLine)(hd:(a == sysModules)=false)(rel:KV aN vs)(dd:h'.DictOf (aW P w) a vs) :
  bJ P w H' h' a (.dK aN):=⟨z,hd,vs,rel,dd⟩
theorem Rv {H':Hp}{Q:Unit->Shared->Prop}(hu:A.units + 1 < cLine)(I:Inv X af σ H s)(g:RG H a y v H')(ry:RelV y u)(rv:RelV v r)(h:∀ s',Inv X af σ H' s'->Q () s') :
  wpAny (model X.prog X.w) A (setItem (.ref a) u r) Q E s:=by
 rcases g with ⟨aN,k,e,ey,l,eH⟩ | ⟨aN,k,b,e,ey,eb,l,eH⟩
 ·subst ey eH;obtain ⟨z,hd,vs,rel,dd⟩:=W0 I.bF e;have hz:vs.length<=sizeLine:=by rw [<-rel.length];exact z
  have hl:(putK aN k v).length<=sizeLine:=by have:=eF aN k v;omega
  refine wpAny_setItem_pairs (hsz:=hz) (sG ry) dd λh' YS hs=>h _ ?_;have he:∃ q,h'.get? a=some q:=let ⟨q,_,_,hq,_⟩:=YS;⟨q,hq⟩;exact uM I (by rw [e];exact True.intro) hs he (T9 hl hd (rel.put k rv) YS)
 ·subst ey eH;cases (show u=Value.ref b from ry);obtain ⟨z,hd,xs,rel,dd⟩:=aa2 I.bF e;have hz:xs.length<=sizeLine:=by rw [<-Paired.length rel];exact z
  have hl:(putK aN k v).length<=sizeLine:=by have:=eF aN k v;omega
  refine wpAny_setItem_heap (hsz:=hz) (tupleKind_room_in1 hu) (gS I.bF eb) dd λh' YS hs=>h _ ?_;obtain ⟨q,es,ep,hq,h2,h3,h4,_,h5⟩:=YS;refine uM I (by rw [e];exact True.intro) hs ⟨q,hq⟩ ⟨hl,hd,_,(rel.put k eb rv).keeps λc ys ec=>?_,q,es,ep,hq,h2,h3,h4,h5⟩;rw [wF (cZ ec e (λz=>nomatch z))];exact ec
end
section
variable {X:Cx}{af:List (Addr×Obj)}{σ:St}{H:Hp}{s:Shared}{a:Addr}{aN:List (Key×V)}{k:Key}{u:Value}{A:Around}{E:Value->Shared->Prop}
end
noncomputable def abd (i:Expr):Prop:=∀ ov iv,subscripted i false ov iv=operate [ov,iv] (getItem ov iv)
theorem U0 {prog:Program}{w:World}{A:Around}{E:Value->Shared->Prop}{s:Shared}{env:Env}{value slice:Expr}{pos:Pos}{T id:String}{Q:Value->Shared->Prop}
  (hl:typeLookup (.type T) "__getitem__" = pure (some (.builtin id))) (hs:abd slice)
  (h:wpAny (model prog w) A (eval value env) (λo bH=>wpAny (model prog w) A (eval slice env) (λi kB=>kB.TypeIs o T/\wpAny (model prog w) A (getItem o i) Q E kB) E bH) E s) :
  wpAny (model prog w) A (eval (.Subscript value slice pos) env) Q E s:=by
 refine Subscript_ (wpAny_mono h (λo bH gw=>wpAny_mono gw (λi kB TF=>?_) λ_ _ x=>x) λ_ _ x=>x);obtain ⟨hT,TF⟩:=TF;unfold subscriptTail;refine wpAny_bind ?_;rw [getitemInPython_of_ne hT.not_modules];refine wpAny_bind (wpAny_specialOf hT hl ?_);have fin:wpAny (model prog w) A (subscripted slice false o i) (λr vz=>wpAny (model prog w) A (letTemporaryGo value o r >>= λ_=>pure r) Q E vz) E kB:=by
  rw [hs o i];exact wpAny_operating (wpAny_mono TF (λr vz VS=>wpAny_bind (wpAny_letTemporaryGo (wpAny_pure VS))) λ_ _ x=>x)
 first
  | exact wpAny_pure (wpAny_bind fin)
  | exact wpAny_bind (wpAny_pure (wpAny_bind fin))
  | exact wpAny_bind fin
theorem Nx {X:Cx}{af:List (Addr×Obj)}{σ:St}{H:Hp}{s:Shared}{a:Addr}{y:V}{o:Option V}(I:Inv X af σ H s)(g:iK H a y o):s.TypeIs (.ref a) "dict" := by
 rcases g with ⟨aN,k,e,_,_⟩ | ⟨aN,k,b,e,_,_,_⟩
 ·obtain ⟨_,_,vs,_,dd⟩:=sR I.bF e;exact dd.typeIs
 ·obtain ⟨_,_,xs,_,dd⟩:=Nu I.bF e;exact dd.typeIs
noncomputable def ZK (td ty:TE):TE:=fun σ H Q=>td σ H λx H1=>ty σ H1 λy H2=>∃ a v,x=.ref a/\iK H2 a y (some v)/\Q v H2
noncomputable def ZT (td ty tv:TE):TS:=λD σ H=>tv σ H λv H1=>td σ H1 λx H2=>ty σ H2 λy H3=>∃ a H4,x=.ref a/\RG H3 a y v H4/\D.nx σ H4
section
variable {X:Cx}{o i e value:Expr}{pos pos' UT:Pos}{td ty tv:TE}
theorem PR (hu:X.A.units + 1 < cLine)(ho:PE X o td)(hi:PE X i ty)(hs:abd i):PE X (.Subscript o i pos) (ZK td ty):=by intro af s σ H Q I h;refine U0 PySem.F.slot_dict_getitem.lookup hs (bG (ho af s σ H _ I h) λu s1 z732=>?_);obtain ⟨x,H1,I1,rx,q1⟩:=z732;refine bG (hi af s1 σ H1 _ I1 q1) λiv s2 z733=>?_;obtain ⟨y,H2,I2,ry,a,v,ex,g,q2⟩:=z733;subst ex;obtain rfl:u=Value.ref a:=rx;exact ⟨Nx I2 g,Rw hu I2 g ry λw' s3 I3 rT=>⟨v,H2,I3,rT,q2⟩⟩
theorem PL (hu:X.A.units + 1 < cLine)(ho:PE X o td)(hi:PE X i ty)(hv:PE X value tv)(hs:swapsWith value (some (.Subscript o i pos')) pos.line X.env=pure false) :
  PS X (.Assign [.Subscript o i pos'] value pos) (ZT td ty tv):=by
 intro af s σ H D I h;refine wpAny_Assign_Subscript (bG (hv af s σ H _ I h) λr s1 z718=>?_) hs;obtain ⟨v,H1,I1,rv,q1⟩:=z718;refine bG (ho af s1 σ H1 _ I1 q1) λu s2 z719=>?_;obtain ⟨x,H2,I2,rx,q2⟩:=z719;refine bG (hi af s2 σ H2 _ I2 q2) λiv s3 z720=>?_;obtain ⟨y,H3,I3,ry,a,H4,ex,g,q3⟩:=z720;subst ex;obtain rfl:u=Value.ref a:=rx;exact Rv hu I3 g ry rv λs4 I4=>⟨σ,H4,I4,q3⟩
end
theorem Nv {P:Program}{w:World}{H:Hp}(h:Heap)(hb:sysModules < h.objs.size):bJ P w H (h.push { cls:=.type "dict", data:=.dict #[] }) h.objs.size (.dK []):=
 ⟨za _,beq_eq_false_iff_ne.mpr (Ne.symm (zY hb)),[],.nil,Heap.DictOf.new h⟩
def Xr:TE:=λ_ H Q=>∀ p,H p=none->Q (.ref p) (upd H p (.dK []))
section
variable {X:Cx}{pos:Pos}
theorem SS:PE X (.Dict [] [] pos) Xr:=λaf s σ H Q I h=>
 wpAny_Dict_empty ⟨.ref s.heap.objs.size,_,I.laid (a:=s.heap.objs.size) (o:=.dK []) (t':=s.toks) (λ_ _ q=>Heap.get?_push_of_some _ q) (zD _) (Nv s.heap I.big),rfl,h _ (I.bF.fresh (zD _))⟩
end
noncomputable def Of:List (TE×TE)->St->Hp->(List (V×V)->Hp->Prop)->Prop
 | [],_,H,Q=>Q [] H
 | (tk,tv)::r,σ,H,Q=>tk σ H λx H1=>tv σ H1 λy H2=>Of r σ H2 λps H3=>Q ((x,y)::ps) H3
noncomputable abbrev VV:List (V×V)->List (Value×Value)->Prop:=Paired λp q=>RelV p.1 q.1/\RelV p.2 q.2
noncomputable def PPs (X:Cx)(pos:Pos)(keys:List (Option Expr))(values:List Expr)(UR:List (TE×TE)):Prop:=
 ∀ (af:List (Addr×Obj)) (s:Shared) (σ:St) (H:Hp) (Q:List (V×V)->Hp->Prop),Inv X af σ H s->Of UR σ H Q ->
  wpAny (model X.prog X.w) X.A (evalPairs (pairTrees keys values X.env pos)) (λvs s'=>∃ ps H',Inv X af σ H' s'/\VV ps vs/\Q ps H') X.xe s
theorem Vv {X:Cx}{pos:Pos}:PPs X pos [] [] []:=λaf s σ H Q I h=>pairTrees_nil_walk ⟨[],H,I,.nil,h⟩
theorem SQ {X:Cx}{pos:Pos}{k v:Expr}{ks:List (Option Expr)}{vs:List Expr}{tk tv:TE}{UR:List (TE×TE)}(hk:PE X k tk)(hv:PE X v tv)(hr:PPs X pos ks vs UR) :
  PPs X pos (some k::ks) (v::vs) ((tk,tv)::UR):=λaf s σ H Q I h=>
 pairTrees_cons_walk (bG (hk af s σ H _ I h) λu s1 ⟨x,H1,I1,rx,q1⟩=>bG (hv af s1 σ H1 _ I1 q1) λw2 s2 ⟨y,H2,I2,ry,q2⟩=>
  bG (hr af s2 σ H2 _ I2 q2) λws s3 ⟨ps,H3,I3,rel,q3⟩=>⟨(x,y)::ps,H3,I3,.cons ⟨rx,ry⟩ rel,q3⟩)
noncomputable def n8 (aN more:List (Key×V)):List (Key×V):=more.foldl (λacc kv=>putK acc kv.1 kv.2) aN
theorem KV.merge:∀ {more:List (Key×V)}{rs:List (Key×Value)}{aN:List (Key×V)}{vs:List (Key×Value)},KV more rs->KV aN vs->KV (n8 aN more) (merged vs rs):=by
 intro more rs aN vs r;unfold KV at r;induction r generalizing aN vs with
 | nil=>intro q;exact q
 | @cons p q ps qs h t ih=>
  intro r0;have e:KV (putK aN p.1 p.2) (stored vs q.1 q.2):=by
   have:=r0.put p.1 h.2;rw [<-h.1];exact this
  exact ih e
theorem iT:∀ (more aN:List (Key×V)),(n8 aN more).length<=aN.length + more.length
 | [],aN=>by show aN.length<=aN.length + 0;omega
 | p::r,aN=>by
  have h1:=iT r (putK aN p.1 p.2);have h2:=eF aN p.1 p.2;show (n8 (putK aN p.1 p.2) r).length<=_;rw [zU];omega
theorem pA {P:Program}{w:World}:∀ {aN:List (Key×V)}{ws:List (Value×Value)},VV (aN.map λkv=>(kV kv.1,kv.2)) ws->∃ rs,Carries (aW P w) ws rs/\KV aN rs
 | [],_,r=>by rw [yN] at r;cases r;exact ⟨[],True.intro,.nil⟩
 | p::aN,_,r=>by
  rw [zc] at r;cases r with
  | @cons a b as bs h t=>
   obtain ⟨rs,c,q⟩:=pA (P:=P) (w:=w) t;obtain ⟨b1,b2⟩:=b;exact ⟨(p.1,b2)::rs,⟨sG h.1,rfl,c⟩,.cons ⟨rfl,h.2⟩ q⟩
noncomputable def ZJ (UR:List (TE×TE)):TE:=fun σ H Q=>∀ p,H p=none->Of UR σ (upd H p (.dK [])) λps H2=>H2 p=some (.dK [])/\∃ aN:List (Key×V),ps=aN.map (λkv=>(kV kv.1,kv.2))/\aN.length<=15/\Q (.ref p) (upd H2 p (.dK (n8 [] aN)))
theorem VA {X:Cx}{pos:Pos}{keys:List (Option Expr)}{values:List Expr}{UR:List (TE×TE)}(h:PPs X pos keys values UR)(fL:keys.all (·.isSome)=true)(hl:keys.length=values.length)(h0:keys≠[])
  (h15:keys.length<=15):PE X (.Dict keys values pos) (ZJ UR):=by
 intro af s σ H Q I q;have hn:=I.bF.fresh (zD s.heap.objs.size);have I1:=I.laid (a:=s.heap.objs.size) (o:=.dK []) (h':=s.heap.push { cls:=.type "dict", data:=.dict #[] }) (t':=s.toks) (λ_ _ q=>Heap.get?_push_of_some _ q) (zD _) (Nv s.heap I.big);refine wpAny_Dict_walk (knd:=aW X.prog X.w) fL hl h0 h15 (bG (h af _ σ _ _ I1 (q _ hn)) λws s2 z721=>?_);obtain ⟨ps,H2,I2,rel,e,aN,ep,lk,q2⟩:=z721;subst ep;obtain ⟨rs,c,rk⟩:=pA (P:=X.prog) (w:=X.w) rel;obtain ⟨z,hd,vs0,r0,dd⟩:=W0 I2.bF e;cases r0;refine ⟨rs,c,dd,λh' YS hs=>⟨.ref s.heap.objs.size,_,?_,rfl,q2⟩⟩;have hz:(n8 [] aN).length<=sizeLine:=by
  have h1:=iT aN [];rw [yE] at h1;rw [sizeLine_eq];omega
 have he:∃ q,h'.get? s.heap.objs.size=some q:=let ⟨q,_,_,hq,_⟩:=YS;⟨q,hq⟩;exact uM I2 (by rw [e];exact True.intro) hs he (T9 hz hd (rk.merge .nil) YS)
section
variable {X:Cx}{af:List (Addr×Obj)}{σ:St}{H:Hp}{s:Shared}{a:Addr}{y d:V}{u r:Value}{o:Option V}{A:Around}{E:Value->Shared->Prop}
end
section
variable {X:Cx}{o e f:Expr}{apos iH:Pos}{td ty tx:TE}
end
section
variable {X:Cx}{af:List (Addr×Obj)}{σ:St}{H:Hp}{s:Shared}{a:Addr}{aN:List (Key×V)}{A:Around}{E:Value->Shared->Prop}
end
section
variable {X:Cx}{af:List (Addr×Obj)}{σ:St}{H:Hp}{s:Shared}{a:Addr}{y:V}{u:Value}{A:Around}{E:Value->Shared->Prop}
end
end L2
namespace HT
open PySem PyProof.Rows
section
open PySem.SeqAt
open PySem.AutoSeq1 (wpAny_loadPart')
open PySem.MeetsSeq PySem.MeetsSeq2 PySem.MeetsSeq3
end
section
variable {prog:Program}{w:World}{A:Around}{E:Value->Shared->Prop}{s:Shared}
noncomputable def N3 (n d:Nat):Option Int->Nat
 | none=>d
 | some v=>if v < 0 then (v + (n:Int)).toNat else min v.toNat n
theorem mH (n d k:Nat):N3 n d (some (k:Int))=min k n:=by show (if (k:Int) < 0 then ((k:Int) + (n:Int)).toNat else min (k:Int).toNat n)=min k n;rw [if_neg (by omega),zk]
end
end HT
namespace L2
open PySem PySem.Spec PyProof.Rows
abbrev TO:=St->Hp->(Option Int->Hp->Prop)->Prop
noncomputable def PO (X:Cx)(e:Option Expr)(t:TO):Prop:=
 ∀ (af:List (Addr×Obj)) (s:Shared) (σ:St) (H:Hp) (Q:Option Int->Hp->Prop),Inv X af σ H s->t σ H Q ->
  wpAny (model X.prog X.w) X.A (evalPart e X.env) (λu s'=>∃ o H',Inv X af σ H' s'/\IsPart u o/\Q o H') X.xe s
def d9:TO:=λ_ H Q=>Q none H
def iO (t:TE):TO:=fun σ H Q=>t σ H λx H1=>∃ i,x=.int i/\Q (some i) H1
section
variable {X:Cx}{e:Expr}{te:TE}{lo hi:Option Expr}{tl th:TO} {pos p2:Pos}
theorem jE (h:PE X e te):PO X (some e) (iO te):=by intro af s σ H Q I hw;rw [evalPart_some];refine bG (h af s σ H _ I hw) λu s1 ⟨x,H1,I1,r1,q1⟩=>?_;obtain ⟨i,rfl,q⟩:=q1;obtain ⟨t,rfl⟩:=r1;exact ⟨some i,H1,I1,.int i t,q⟩
noncomputable def SlR (X:Cx)(r:V->Option Int->Option Int->Hp->VK->Prop):Prop:=
 ∀ (af:List (Addr×Obj)) (s:Shared) (σ:St) (H:Hp) (x:V) (v vl vu:Value) (lo hi:Option Int) (sl:Addr) (Q:VK),Inv X af σ H s->RelV x v->s.heap.IsSliceOf sl vl vu .none->IsPart vl lo->IsPart vu hi->r x lo hi H Q ->
  ∃ T id,typeLookup (.type T) "__getitem__" = pure (some (.builtin id))/\s.TypeIs v T/\wpAny (model X.prog X.w) X.A (getItem v (.ref sl)) (EP X af σ Q) X.xe s
noncomputable def UX (r:V->Option Int->Option Int->Hp->VK->Prop)(te:TE)(tl th:TO):TE:=fun σ H Q=>te σ H λx H1=>tl σ H1 λl H2=>th σ H2 λu H3=>r x l u H3 Q
theorem vL {r:V->Option Int->Option Int->Hp->VK->Prop}(hr:SlR X r)(he:PE X e te)(hl:PO X lo tl)(hu:PO X hi th):PE X (.Subscript e (.Slice lo hi none p2) pos) (UX r te tl th):=by intro af s σ H Q I h;refine Subscript_ (bG (he af s σ H _ I h) λv s1 z729=>?_);obtain ⟨x,H1,I1,r1,q1⟩:=z729;refine wpAny_Slice (bG (hl af s1 σ H1 _ I1 q1) λvl s2 z730=>?_);obtain ⟨l,H2,I2,pl,q2⟩:=z730;refine bG (hu af s2 σ H2 _ I2 q2) λvu s3 z731=>?_;obtain ⟨u,H3,I3,pu,q3⟩:=z731;rw [evalPart_none];refine wpAny_pure ?_;have I4:Inv X af σ H3 { s3 with heap:=s3.heap.push { cls:=.type "slice", data:=.fields #[vl,vu,.none] } }:=I3.kept (t':=s3.toks) λb ob q=>Heap.get?_push_of_some _ q;obtain ⟨T,id,hT,ht,hg⟩:=hr af { s3 with heap:=s3.heap.push { cls:=.type "slice", data:=.fields #[vl,vu,.none] } } σ H3 x v vl vu l u s3.heap.objs.size Q I4 r1 (Heap.IsSliceOf.new ..) pl pu q3;show wpAny (model X.prog X.w) X.A (subscriptTail e (.Slice lo hi none p2) v (.ref s3.heap.objs.size)) (EP X af σ Q) X.xe { s3 with heap:=s3.heap.push { cls:=.type "slice", data:=.fields #[vl,vu,.none] } };exact tail_any (ops:=[.ref s3.heap.objs.size,v]) ht hT hg (by with_unfolding_all rfl)
noncomputable def uN (xs:List V)(lo hi:Option Int):List V:=(xs.drop (HT.N3 xs.length 0 lo)).take (HT.N3 xs.length xs.length hi - HT.N3 xs.length 0 lo)
theorem Ny (xs:List V)(lo hi:Option Int):(uN xs lo hi).length<=xs.length:=by unfold uN;rw [zV,xN];omega
end
noncomputable def Q8 (n:Nat)(i:Int):Option Nat:=if 0<=i then (if i < n then some i.toNat else none) else if -(n:Int)<=i then some (i + n).toNat else none
noncomputable def gb {α:Type}(xs:List α)(i:Int):Option α:=(Q8 xs.length i).bind λj=>xs[j]?
theorem P6 {n:Nat}{i:Int}{j:Nat}(h:Q8 n i=some j):seqIndex? i n=some j/\j < n/\-(n:Int)<=i/\i < n:=by
 unfold Q8 at h;by_cases h0:0<=i
 ·rw [if_pos h0] at h;by_cases h1:i < n
  ·rw [if_pos h1] at h;have e:i.toNat=j:=Option.some.inj h;exact ⟨by rw [seqIndex_of h0 h1,e],by omega,by omega,h1⟩
  ·rw [if_neg h1] at h;cases h
 ·rw [if_neg h0] at h;by_cases h1:-(n:Int)<=i
  ·rw [if_pos h1] at h;have e:(i + n).toNat=j:=Option.some.inj h;exact ⟨by rw [seqIndex_neg (by omega) h1,e],by omega,h1,by omega⟩
  ·rw [if_neg h1] at h;cases h
theorem Qi {α:Type}{xs:List α}{i:Int}{v:α}(h:gb xs i=some v):∃ j,seqIndex? i xs.length=some j/\xs[j]?=some v/\j < xs.length/\-(xs.length:Int)<=i/\i < xs.length:=by
 unfold gb at h;cases e:Q8 xs.length i with
 | none=>rw [e] at h;cases h
 | some j=>
  rw [e] at h;obtain ⟨h1,h2,h3,h4⟩:=P6 e;exact ⟨j,h1,h,h2,h3,h4⟩
theorem wV {α:Type}{xs:List α}{j:Nat}{v:α}(h:xs[j]?=some v):gb xs (j:Int)=some v:=by
 have hj:j < xs.length:=(zC.mp h).1;have e:Q8 xs.length (j:Int)=some j:=by
  unfold Q8;rw [if_pos (by omega),if_pos (by omega)];simp
 unfold gb;rw [e];exact h
theorem NU {α:Type}(xs:List α)(v:α):gb (xs++[v]) (-1)=some v:=by
 have hl:(xs++[v]).length=xs.length + 1:=by simp
 have e:Q8 (xs++[v]).length (-1)=some xs.length:=by
  unfold Q8;rw [hl,if_neg (by decide),if_pos (by omega)];congr 1;omega
 unfold gb;rw [e];show (xs++[v])[xs.length]?=some v;simp
noncomputable def Wt (b:Expr):Prop:=∀ o i,subscripted b false o i=operate [o,i] (getItem o i)
noncomputable def IxR (X:Cx)(r:R2):Prop:=
 ∀ (value slice:Expr) (af:List (Addr×Obj)) (s:Shared) (σ:St) (H:Hp) (x y:V) (v u:Value) (Q:VK),Inv X af σ H s->RelV x v->RelV y u->r x y H Q ->
  subscripted slice false v u=operate [v,u] (getItem v u)->wpAny (model X.prog X.w) X.A (subscriptTail value slice v u) (EP X af σ Q) X.xe s
noncomputable def MtR (X:Cx)(id:String)(r:V->List V->Hp->VK->Prop):Prop:=
 ∀ (af:List (Addr×Obj)) (s:Shared) (σ:St) (H:Hp) (x:V) (xs:List V) (v:Value) (us:List Value) (Q:VK),Inv X af σ H s->RelV x v->Vals xs us->r x xs H Q ->
  wpAny (model X.prog X.w) X.A (call (.builtin id) (v::us)) (EP X af σ Q) X.xe s
section
variable {X:Cx}{a b:Expr}{ta tb:TE}{pos:Pos}
theorem wO {r:R2}(hr:IxR X r)(ha:PE X a ta)(hb:PE X b tb)(hs:Wt b):PE X (.Subscript a b pos) (Ph r ta tb):=by intro af s σ H Q I h;exact Subscript_ (YX ha hb I h λv u s2 x y H2 I2 rx ry q=>hr a b af s2 σ H2 x y v u Q I2 rx ry q (hs _ _))
noncomputable def p7 (K:PySem.W.Frag):R2:=λx y H Q=>∃ p xs i v,x=.ref p/\y=.int i/\aU K H p xs/\gb xs i=some v/\Q v H
noncomputable def p5 (K:PySem.W.Frag):R2:=λx y H Q=>∃ p xs i v,x=.ref p/\y=.int i/\bS K H p xs/\gb xs i=some v/\Q v H
theorem VQ:IxR X (p7 X.K):=by
 intro value slice af s σ H x y v u Q I rx ry h hs;obtain ⟨p,xs,i,z,rfl,rfl,hq,he,q⟩:=h;cases rx;obtain ⟨t,rfl⟩:=ry;obtain ⟨aH,r,pl,hz⟩:=I.list hq;obtain ⟨j,h1,h2,h3,h4,h5⟩:=Qi he;obtain ⟨w,ew,rT⟩:=r.get h2;have hl:=r.length;have hn:=om;have fin:EP X af σ Q w s:=⟨z,H,I,rT,q⟩;by_cases h0:0<=i
 ·have hj:i.toNat=j:=by
   rw [seqIndex_of h0 h5] at h1;exact Option.some.inj h1
  exact item_listR pl.isList h0 (by omega) (by rw [hj];simpa using ew) fin hs
 ·have hj:(i + (aH.toArray.size:Int)).toNat=j:=by
   rw [seqIndex_neg (by omega) h4] at h1;rw [zR,<- hl];exact Option.some.inj h1
  exact subscriptTail_builtinR (x:=w) pl.isList.typeIs slot_list_getitem.lookup
   (wpAny_getItem_list_neg (Q:=λr s'=>r=w/\EP X af σ Q r s') pl.isList (by omega) (by rw [zR] <;> omega) (by omega) (by rw [hj];simpa using ew) ⟨rfl,fin⟩) hs
theorem Yk:IxR X (p5 X.K):=by
 intro value slice af s σ H x y v u Q I rx ry h hs;obtain ⟨p,xs,i,z,rfl,rfl,hq,he,q⟩:=h;cases rx;obtain ⟨t,rfl⟩:=ry;obtain ⟨aH,r,pl,hz⟩:=I.tuple hq;obtain ⟨j,h1,h2,h3,h4,h5⟩:=Qi he;obtain ⟨w,ew,rT⟩:=r.get h2;have hl:=r.length;have hn:=om;have fin:EP X af σ Q w s:=⟨z,H,I,rT,q⟩;exact subscriptTail_builtinR (x:=w) pl.typeIs slot_tuple_getitem.lookup
  (getItem_tuple (j:=j) (Q:=λr s'=>r=w/\EP X af σ Q r s') pl (by omega) (by omega) (by rw [zR,<- hl];exact h1) (by simpa using ew) ⟨rfl,fin⟩) hs
theorem OI (aH:List Value)(n j:Nat)(u:Value):Obj.mapSeq (·.setIfInBounds j u) { cls:=.type "list", data:=.seq aH.toArray n }={ cls:=.type "list", data:=.seq (aH.set j u).toArray n }:=by simp [Obj.mapSeq]
theorem Inv.lst {af:List (Addr×Obj)}{σ:St}{H:Hp}{s:Shared}{p:Addr}{xs:List V}(I:Inv X af σ H s)(h:H p=some (.lst xs)) :
  ∃ (aH:List Value) (n:Nat),Vals xs aH/\s.heap.get? p=some { cls:=.type "list", data:=.seq aH.toArray n }/\xs.length<=sizeLine:=by
 obtain ⟨z,aH,n,r,e⟩:=I.bF p _ h;exact ⟨aH,n,r,e,z⟩
theorem Inv.Yc {af:List (Addr×Obj)}{σ:St}{H:Hp}{s:Shared}{p:Addr}{xs ys:List V}{aH its':List Value}{n n':Nat}{f:Obj->Obj}(I:Inv X af σ H s)(h:H p=some (.lst xs))
  (ho:s.heap.get? p=some { cls:=.type "list", data:=.seq aH.toArray n }) (hf:f { cls:=.type "list", data:=.seq aH.toArray n }={ cls:=.type "list", data:=.seq its'.toArray n' }) (r:Vals ys its') (hz:ys.length<=sizeLine) (t:Nat) :
  Inv X af σ (upd H p (.lst ys)) { s with heap:=s.heap.update p f,toks:=t }:=by
 have e:(s.heap.update p f).get? p=some { cls:=.type "list", data:=.seq its'.toArray n' }:=by
  rw [Heap.get?_update_self f ho (by rw [hf] <;> rfl),hf]
 refine I.write (x:=p) (e:=p) (by rw [h];trivial) (.inl rfl) (λb u hb q=>(Heap.get?_update_other _ _ (Ne.symm hb)).trans q) ⟨_,e⟩ ?_;exact ⟨hz,its',n',r,e⟩
noncomputable def jC:V->V->V->Hp->(Hp->Prop)->Prop:=λo i v H Q=>∃ p xs k j,o=.ref p/\i=.int k/\H p=some (.lst xs)/\Q8 xs.length k=some j/\Q (upd H p (.lst (xs.set j v)))
theorem qq:Y0 X jC:=by
 intro af s σ H o i v ov iv u Q I ro ri rv h;obtain ⟨p,xs,k,j,rfl,rfl,hp,hj,q⟩:=h;cases ro;obtain ⟨t,rfl⟩:=ri;obtain ⟨aH,n,r,ho,hz⟩:=I.lst hp;obtain ⟨h1,h2,h3,h4⟩:=P6 hj;have hl:=r.length;have hn:=om;have I':Inv X af σ (upd H p (.lst (xs.set j v))) { s with heap:=s.heap.update p (Obj.mapSeq (·.setIfInBounds j u)) }:=
  I.Yc hp ho (OI aH n j u) (r.set rv j) (by rw [xj];exact hz) s.toks
 by_cases h0:0<=k
 ·have hk:k.toNat=j:=by
   rw [seqIndex_of h0 h4] at h1;exact Option.some.inj h1
  exact PySem.W.ki_setAt ho h0 (by omega) (by rw [zR,<- hl];exact h4) (by rw [hk];exact ⟨_,I',q⟩)
 ·have hk:(k + (aH.toArray.size:Int)).toNat=j:=by
   rw [seqIndex_neg (by omega) h3] at h1;rw [zR,<- hl];exact Option.some.inj h1
  exact PySem.W.ki_setBack ho (by omega) (by rw [zR,<- hl];exact h3) (by omega) (by rw [hk];exact ⟨_,I',q⟩)
theorem uc (lo hi:Option Int)(n:Nat):(sliceBounds lo hi none n).1=((HT.N3 n 0 lo:Nat):Int)/\(sliceBounds lo hi none n).2.1=((HT.N3 n n hi:Nat):Int)/\(sliceBounds lo hi none n).2.2=1:=by
 refine ⟨?_,?_,rfl⟩
 ·cases lo with
  | none=>simp [sliceBounds,HT.N3]
  | some i=>
   simp only [sliceBounds,HT.N3,Option.getD_none,show (1:Int) > 0 by decide,if_true];by_cases h:i < 0
   ·simp only [h,if_true] <;> omega
   ·simp only [h,if_false] <;> omega
 ·cases hi with
  | none=>simp [sliceBounds,HT.N3]
  | some i=>
   simp only [sliceBounds,HT.N3,Option.getD_none,show (1:Int) > 0 by decide,if_true];by_cases h:i < 0
   ·simp only [h,if_true] <;> omega
   ·simp only [h,if_false] <;> omega
theorem pX (aH:List Value)(lo hi:Option Int):slicePick aH.toArray lo hi none=((aH.drop (HT.N3 aH.length 0 lo)).take (HT.N3 aH.length aH.length hi - HT.N3 aH.length 0 lo)).toArray:=by obtain ⟨h1,h2,h3⟩:=uc lo hi aH.toArray.size;unfold slicePick;rw [h1,h2,h3];simp only [sliceRange_one,pick_run,zR] <;> rfl
noncomputable def ZZ (K:PySem.W.Frag):V->Option Int->Option Int->Hp->VK->Prop:=λx lo hi H Q=>∃ a xs,x=.ref a/\aU K H a xs/\∀ p,H p=none->Q (.ref p) (upd H p (.lst (uN xs lo hi)))
theorem Vg:SlR X (ZZ X.K):=by intro af s σ H x v vl vu lo hi sl Q I rx hs pl pu h;obtain ⟨a,xs,rfl,hx,q⟩:=h;cases rx;obtain ⟨aH,r,ht,hz⟩:=I.list hx;have hlen:=r.length;refine ⟨"list", _,slot_list_getitem.lookup,ht.isList.typeIs,?_⟩;refine wpAny_getItem_list_slice ht.isList hs pl pu .none (by simp) ?_ (by rw [zR] <;> omega);rw [pX,<- hlen];refine ⟨.ref s.heap.objs.size,_,I.laid (t':=s.toks) (o:=.lst (uN xs lo hi)) (λb ob q=>Heap.get?_push_of_some _ q) (zD _) ?_,rfl,q _ (I.bF.fresh (zD _))⟩;exact ⟨yC (Ny xs lo hi) hz,_,0,(r.drop (HT.N3 xs.length 0 lo)).take (HT.N3 xs.length xs.length hi - HT.N3 xs.length 0 lo),Heap.get?_push_size _ rfl⟩
noncomputable def cG:V->Bool
 | .bL=>true
 | .bl _=>true
 | .int _=>true
 | .str _=>true
 | _=>false
noncomputable def sQ:V->V->Bool
 | .bL,.bL=>true
 | .bl a,.bl b=>a == b
 | .bl a,.int b=>(if a then 1 else 0) == b
 | .int a,.bl b=>a == (if b then 1 else 0)
 | .int a,.int b=>a == b
 | .str a,.str b=>a == b
 | _,_=>false
theorem O0 {A:Around}{s:Shared}{y x:V}{u v:Value}(ry:RelV y u)(rx:RelV x v)(fy:cG y=true)(fx:cG x=true):SeqAt.EqAt A s u v (sQ y x):=by
 cases y with
 | bL=>
  cases ry;cases x with
  | bL=>cases rx;exact SeqAt.EqAt.same _
  | bl b=>cases rx;exact SeqAt.EqAt.none_bool b
  | int b=>obtain ⟨t,rfl⟩:=rx;exact SeqAt.EqAt.none_int b t
  | str b=>obtain ⟨t,rfl⟩:=rx;exact SeqAt.EqAt.none_str b t
  | _=>exact absurd (show false=true from fx) zP
 | bl a=>
  cases ry;cases x with
  | bL=>cases rx;exact SeqAt.EqAt.bool_none a
  | bl b=>cases rx;exact SeqAt.EqAt.bool_bool a b
  | int b=>obtain ⟨t,rfl⟩:=rx;exact SeqAt.EqAt.bool_int a b t
  | str b=>obtain ⟨t,rfl⟩:=rx;exact SeqAt.EqAt.bool_str a b t
  | _=>exact absurd (show false=true from fx) zP
 | int a=>
  obtain ⟨t',rfl⟩:=ry;cases x with
  | bL=>cases rx;exact SeqAt.EqAt.int_none a t'
  | bl b=>cases rx;exact SeqAt.EqAt.int_bool a t' b
  | int b=>obtain ⟨t,rfl⟩:=rx;exact SeqAt.EqAt.int_int a t' b t
  | str b=>obtain ⟨t,rfl⟩:=rx;exact SeqAt.EqAt.int_str a t' b t
  | _=>exact absurd (show false=true from fx) zP
 | str a=>
  obtain ⟨t',rfl⟩:=ry;cases x with
  | bL=>cases rx;exact SeqAt.EqAt.str_none a t'
  | bl b=>cases rx;exact SeqAt.EqAt.str_bool a t' b
  | int b=>obtain ⟨t,rfl⟩:=rx;exact SeqAt.EqAt.str_int a t' b t
  | str b=>obtain ⟨t,rfl⟩:=rx;exact SeqAt.EqAt.str_str a t' b t
  | _=>exact absurd (show false=true from fx) zP
 | _=>exact absurd (show false=true from fy) zP
noncomputable def Wg (x:V)(u:Value):Bool:=match u with
 | .none=>sQ .bL x
 | .bool b=>sQ (.bl b) x
 | .int i _=>sQ (.int i) x
 | .str z _=>sQ (.str z) x
 | _=>false
theorem T8 {x y:V}{u:Value}(r:RelV y u)(f:cG y=true):Wg x u=sQ y x:=by
 cases y with
 | bL=>cases r;rfl
 | bl b=>cases r;rfl
 | int i=>obtain ⟨t,rfl⟩:=r;rfl
 | str z=>obtain ⟨t,rfl⟩:=r;rfl
 | _=>exact absurd (show false=true from f) zP
theorem uY {x:V}:∀ {xs:List V}{us:List Value},Vals xs us->xs.all cG=true->us.any (Wg x)=xs.any λy=>sQ y x
 | _,_,.nil,_=>rfl
 | y::xs,u::us,.cons r t,f=>by
  rw [List.all_cons,Bool.and_eq_true] at f;rw [xh,xh,T8 r f.1,uY t f.2]
theorem oh {A:Around}{s:Shared}{x:V}{v:Value}(rx:RelV x v)(fx:cG x=true):∀ {xs:List V}{us:List Value},Vals xs us->xs.all cG=true->∀ u∈us,SeqAt.EqAt A s u v (Wg x u)
 | _,_,.nil,_=>λu hu=>by cases hu
 | y::xs,u::us,.cons r t,f=>λu' hu=>by
  rw [List.all_cons,Bool.and_eq_true] at f;rcases zH.mp hu with rfl | hu
  ·rw [T8 r f.1];exact O0 r rx f.1 fx
  ·exact oh rx fx t f.2 u' hu
def WL (x:V)(xs:List V):Bool:=xs.any λy=>sQ y x
noncomputable def rIn (K:PySem.W.Frag)(neg:Bool):R2:=λx y H Q=>∃ p xs,y=.ref p/\(aU K H p xs\/bS K H p xs)/\cG x=true/\xs.all cG=true/\Q (.bl (if neg then !WL x xs else WL x xs)) H
theorem QJ:gI X (compareOp .In) (rIn X.K false):=by
 intro af s σ H x y v u Q I rx ry h;obtain ⟨p,xs,rfl,hq,fx,fs,q⟩:=h;cases ry;rcases hq with hq | hq
 ·obtain ⟨aH,r,pl,hz⟩:=I.list hq;refine SeqAt.in_listAt (Wg x) pl.isList (λw hw=>oh rx fx r fs w (by simpa using hw)) ⟨.bl _,H,I,rfl,?_⟩;rw [show aH.toArray.any (Wg x)=aH.any (Wg x) by simp,uY r fs];exact q
 ·obtain ⟨aH,r,pl,hz⟩:=I.tuple hq;refine SeqAt.in_tupleAt (Wg x) pl (λw hw=>oh rx fx r fs w (by simpa using hw)) ⟨.bl _,H,I,rfl,?_⟩;rw [show aH.toArray.any (Wg x)=aH.any (Wg x) by simp,uY r fs];exact q
theorem uR:dm X (.builtin "len") (λxs H Q=>∃ p ys,xs=[.ref p]/\(aU X.K H p ys\/bS X.K H p ys)/\Q (.int ys.length) H):=by
 intro af s σ H xs us Q I r h;obtain ⟨p,ys,rfl,hq,q⟩:=h;obtain ⟨u,rfl,rx⟩:=vals1 r;cases rx;have hn:=om;rcases hq with hq | hq
 ·obtain ⟨aH,r',pl,hz⟩:=I.list hq;have hlen:=r'.length;exact Calls.call_len_list pl.isList (by simp only [zR] <;> omega) ⟨.int ys.length,H,I.tok _,⟨s.toks + 1,by rw [zR,hlen]⟩,q⟩
 ·obtain ⟨aH,r',pl,hz⟩:=I.tuple hq;have hlen:=r'.length;exact len_tuple pl (by simp only [zR] <;> omega) ⟨.int ys.length,H,I.tok _,⟨s.toks + 1,by rw [zR,hlen]⟩,q⟩
theorem uQ:dm X (.type "list") (λxs H Q=>∃ p ys,xs=[.ref p]/\(aU X.K H p ys\/bS X.K H p ys)/\∀ l,H l=none->Q (.ref l) (upd H l (.lst ys))):=by
 intro af s σ H xs us Q I r h;obtain ⟨p,ys,rfl,hq,q⟩:=h;obtain ⟨u,rfl,rx⟩:=vals1 r;cases rx;have fin:∀ (aH:List Value),Vals ys aH->ys.length<=sizeLine->∀ (h':Heap) (c':Nat),(∀ b o',s.heap.get? b=some o'->h'.get? b=some o') ->
   h'.get? s.heap.objs.size=some { cls:=.type "list", dict:=none,data:=.seq aH.toArray c',slots:=#[] }->EP X af σ Q (.ref s.heap.objs.size) { s with heap:=h' }:=λaH r' hz h' c' kp e=>
  ⟨.ref s.heap.objs.size,_,I.laid (t':=s.toks) kp (zD _) (show bJ X.prog X.w _ h' _ (.lst ys) from ⟨hz,aH,c',r',e⟩),rfl,q _ (I.bF.fresh (zD _))⟩
 rcases hq with hq | hq
 ·obtain ⟨aH,r',pl,hz⟩:=I.list hq;have hlen:=r'.length;obtain ⟨o,ho,hc,n,hd⟩:=pl.isList;exact call_list_seq p (.inl rfl) ho hc hd (λh' c' kp e=>fin aH r' hz h' c' kp e) (by simp only [zR] <;> omega)
 ·obtain ⟨aH,r',pl,hz⟩:=I.tuple hq;have hlen:=r'.length;obtain ⟨o,ho,hc,n,hd⟩:=pl;exact call_list_seq p (.inr rfl) ho hc hd (λh' c' kp e=>fin aH r' hz h' c' kp e) (by simp only [zR] <;> omega)
theorem qT:dm X (.type "tuple") (λxs H Q=>∃ p ys,xs=[.ref p]/\((aU X.K H p ys/\∀ l,H l=none->Q (.ref l) (upd H l (.tup ys)))\/(bS X.K H p ys/\Q (.ref p) H))):=by
 intro af s σ H xs us Q I r h;obtain ⟨p,ys,rfl,h⟩:=h;obtain ⟨u,rfl,rx⟩:=vals1 r;cases rx;rcases h with ⟨hq,q⟩ | ⟨hq,q⟩
 ·obtain ⟨aH,r',pl,hz⟩:=I.list hq;have hlen:=r'.length;refine call_tuple_list pl.isList (λh' kp=>?_) (by simp only [zR] <;> omega);have I1:Inv X af σ H { s with heap:=h' }:=I.kept (t':=s.toks) kp;have I2:Inv X af σ (upd H h'.objs.size (.tup ys)) { s with heap:=h'.push { cls:=.type "tuple", data:=.seq aH.toArray } }:=
   I1.laid (t':=s.toks) (λb o e=>Heap.get?_push_of_some _ e) (zD _) (show bJ X.prog X.w _ _ _ (.tup ys) from ⟨⟨hz,vS⟩,aH,r',IsTup.new _ _⟩)
  exact ⟨.ref h'.objs.size,_,I2,rfl,q _ (I1.bF.fresh (zD _))⟩
 ·obtain ⟨aH,r',pl,hz⟩:=I.tuple hq;exact call_tuple_same pl ⟨.ref p,H,I,rfl,q⟩
noncomputable def tyV (K:PySem.W.Frag)(T:String)(x:V)(H:Hp):Prop:=match x with
 | .str _=>T = "str"
 | .int _=>T = "int"
 | .ref p=>(T = "list" /\ ∃ xs,aU K H p xs)\/(T = "tuple" /\ ((∃ o,K.lookup p=some o/\o.cls=.type "tuple" /\ o.dict=none)\/∃ xs,H p=some (.tup xs))) \/
   (T = "dict" /\ ((∃ aN,H p=some (.dK aN))\/∃ aN,H p=some (.dT aN)))\/(T = "set" /\ ∃ S n,H p=some (.set S n))
 | _=>False
theorem Xl {af:List (Addr×Obj)}{σ:St}{H:Hp}{s:Shared}{T:String}{x:V}{v:Value}(I:Inv X af σ H s)(r:RelV x v)(ty:tyV X.K T x H) :
  s.TypeIs v T/\∀ a,v=.ref a->∃ ob,s.heap.get? a=some ob/\ob.dict=none:=by
 cases x with
 | str z=>
  obtain ⟨t,rfl⟩:=r;cases (show T = "str" from ty);exact ⟨typeIs_str s z t,λ_ e=>nomatch e⟩
 | int i=>
  obtain ⟨t,rfl⟩:=r;cases (show T = "int" from ty);exact ⟨typeIs_int s i t,λ_ e=>nomatch e⟩
 | ref p=>
  cases r;rcases ty with ⟨rfl,xs,hq⟩ | ⟨rfl,⟨o,hk,hc,hd⟩ | ⟨xs,hk⟩⟩ | ⟨rfl,hk⟩ | ⟨rfl,S,n,hk⟩
  ·obtain ⟨aH,_,pl,_⟩:=I.list hq;refine ⟨pl.isList.typeIs,λa e=>?_⟩;cases e;obtain ⟨o,n,e,c,hd,_⟩:=pl;exact ⟨o,e,hd⟩
  ·refine ⟨⟨o,I.mj p o hk,hc⟩,λa e=>?_⟩;cases e;exact ⟨o,I.mj _ o hk,hd⟩
  ·obtain ⟨nb,_,_,o,e,c,_⟩:=I.bF p _ hk;exact ⟨⟨o,e,c⟩,λa z=>by cases z;exact ⟨o,e,nb.2 o e⟩⟩
  ·have z:∃ o,s.heap.get? p=some o/\o.ExactDict:=by
    rcases hk with ⟨aN,hk⟩ | ⟨aN,hk⟩
    ·obtain ⟨_,_,_,_,o,_,_,e,ex,_⟩:=I.bF p _ hk;exact ⟨o,e,ex⟩
    ·obtain ⟨_,_,_,_,o,_,_,e,ex,_⟩:=I.bF p _ hk;exact ⟨o,e,ex⟩
   obtain ⟨o,e,ex⟩:=z;refine ⟨⟨o,e,ex.1⟩,λa e2=>?_⟩;cases e2;exact ⟨o,e,ex.2.1⟩
  ·obtain ⟨o,_,_,_,e,ex,_⟩:=I.bF p _ hk;refine ⟨⟨o,e,ex.1⟩,λa e2=>?_⟩;cases e2;exact ⟨o,e,ex.2.1⟩
 | _=>exact False.elim ty
noncomputable def UZ (K:PySem.W.Frag)(T:String)(r:V->List V->Hp->VK->Prop)(to:TE)(t:TA):TE:=fun σ H Q=>to σ H λx H1=>tyV K T x H1/\t σ H1 λxs H2=>r x xs H2 Q
variable {o e:Expr}{es:List Expr}{to:TE}{t:TA}{name:Str}{apos iH:Pos}{T id:String}{r:V->List V->Hp->VK->Prop}
theorem dI (pa:PlainAttrs T)(slot:Slot T name id)(hty:typeOf (.builtin id)=pure (.type "method_descriptor"))(hm:MtR X id r)(ho:PE X o to)(ha:PA X (e::es) t)
  (TV:attributeBase o name X.env (eval o X.env)=eval o X.env:=by rfl)
  (YB:((backTo iH (starEach (e::es) X.env)).all (λx=>!x.1) && (backToKw iH (keywordEach [] X.env)).all (λx=>x.1.isSome)
   && decide ((e::es).length + ([]:List Keyword).length + (if ([]:List Keyword).isEmpty then 0 else 1) < 30))=true:=by rfl)
  (TM:(apos.endLine == iH.line)=true:=by rfl) (hs:starEach (e::es) X.env=(false,eval e X.env)::starEach es X.env:=by rfl) (OS:(backTo iH (starEach es X.env)).any (·.1)=false:=by rfl) :
  PE X (.Call (.Attribute o name apos) (e::es) [] iH) (UZ X.K T r to t):=by
 intro af s σ H Q I h;refine wpAny_Call_method_late TV YB TM rfl (bG (ho af s σ H _ I h) λv s1 ⟨x,H1,I1,r1,ty,q1⟩=>?_);obtain ⟨h1,h2⟩:=Xl I1 r1 ty;refine ⟨T,id,pa,slot,hty,h1,h2,?_⟩;have hA:=ha iH af s1 σ H1 _ I1 q1;rw [hs] at hA ⊢;refine Calls.callWith_builtin (by show (false || (backTo iH (starEach es X.env)).any (·.1))=false;rw [OS] <;> rfl) (Calls.evalArgs_plain ?_);exact bG hA λus s2 ⟨vs,H2,I2,r2,q2⟩=>hm af s2 σ H2 x vs v us Q I2 r1 r2 q2
/- xs.append(e),list.index on a aac tuple .. are MtR facts of 06m -/
end
noncomputable def MtM (X:Cx)(id:String)(r:V->List V->Hp->VK->Prop):Prop:=
 ∀ (af:List (Addr×Obj)) (s:Shared) (σ:St) (H:Hp) (x:V) (xs:List V) (v:Value) (us:List Value) (Q:VK),Inv X af σ H s->RelV x v->Vals xs us->r x xs H Q ->
  wpAny (model X.prog X.w) X.A (call (.builtin id) (v::us)) (EP X af σ Q) X.xe s
theorem Vals.one:∀ {x:V}{us:List Value},Vals [x] us->∃ u,us=[u]/\RelV x u
 | _,_,.cons r .nil=>⟨_,rfl,r⟩
theorem Vals.reverse {xs:List V}{us:List Value}(h:Vals xs us):Vals xs.reverse us.reverse:=by
 induction h with
 | nil=>exact .nil
 | cons r t ih=>rw [xU,xU];exact Vals.append ih (.cons r .nil)
theorem Vals.rep {xs:List V}{us:List Value}(h:Vals xs us):∀ k:Nat,Vals (List.replicate k xs).flatten (List.replicate k us).flatten
 | 0=>.nil
 | k + 1=>by
  rw [yp,yp,xV,xV];exact Vals.append h (Vals.rep h k)
theorem foldl_rep (aH:List Value):∀ (k:Nat) (acc:List Value),
  List.foldl (λx1 x2=>x1++x2) acc.toArray (List.replicate k aH.toArray)=(acc++(List.replicate k aH).flatten).toArray
 | 0,acc=>by simp
 | k + 1,acc=>by
  have e:acc.toArray++aH.toArray=(acc++aH).toArray:=by simp
  have e2:(acc++aH)++(List.replicate k aH).flatten=acc++(List.replicate (k + 1) aH).flatten:=by
   rw [yp,xV,xD]
  rw [<-e2,<- foldl_rep aH k (acc++aH),<- e,yp,List.foldl_cons]
section
variable {X:Cx}{af:List (Addr×Obj)}{σ:St}{H:Hp}{s:Shared}{l b:Addr}{xs ys zs:List V}
theorem Inv.VI {aH its':List Value}{n:Nat}{f:Array Value->Array Value}{t':Nat}(I:Inv X af σ H s)(hH:H l=some (.lst xs))
  (e:s.heap.get? l=some { cls:=.type "list", data:=.seq aH.toArray n }) (hf:f aH.toArray=its'.toArray) (hv:Vals ys its') (hz:ys.length<=sizeLine) :
  Inv X af σ (upd H l (.lst ys)) { s with heap:=s.heap.update l (Obj.mapSeq f),toks:=t' }:=by
 have q:=PySem.IsL.update e f;rw [hf] at q;refine I.write (x:=l) (e:=l) (by rw [hH];exact trivial) (.inl rfl) (λb' u hb hu=>(Heap.get?_update_other s.heap (Obj.mapSeq f) (Ne.symm hb)).trans hu) ⟨_,q⟩ ?_;exact ⟨hz,its',_,hv,q⟩
theorem Inv.aaf {aH:List Value}{t':Nat}(I:Inv X af σ H s)(hv:Vals ys aH)(hz:ys.length<=sizeLine) :
  Inv X af σ (upd H s.heap.objs.size (.lst ys)) { s with heap:=s.heap.push { cls:=.type "list", data:=.seq aH.toArray },toks:=t' }:=
 I.laid (λ_ _ q=>Heap.get?_push_of_some _ q) (zD _) ⟨hz,aH,0,hv,Heap.get?_push_size _ rfl⟩
theorem Inv.fresh (I:Inv X af σ H s):H s.heap.objs.size=none:=I.bF.fresh (zD _)
theorem Inv.ur (I:Inv X af σ H s)(hH:H l=some (.lst xs)):xs.length<=sizeLine/\∃ (aH:List Value) (n:Nat),Vals xs aH/\xs.length=aH.length/\s.heap.get? l=some { cls:=.type "list", data:=.seq aH.toArray n }:=by obtain ⟨z,aH,n,r,e⟩:=I.bF l _ hH;exact ⟨z,aH,n,r,r.length,e⟩
theorem vN {n:Nat}(h:n<=sizeLine):Builtin.List.listTooLong n=false:=by unfold Builtin.List.listTooLong;exact decide_eq_false (by omega)
end
section
variable {X:Cx}
noncomputable def dz:V->List V->Hp->VK->Prop:=λx vs H Q=>∃ l xs y,x=.ref l/\vs=[y]/\H l=some (.lst xs)/\xs.length < sizeLine/\Q .bL (upd H l (.lst (xs++[y])))
theorem wt:MtM X "list.append" dz:=by intro af s σ H x vs v us Q I rx rv h;obtain ⟨l,xs,y,rfl,rfl,hH,hz,q⟩:=h;cases rx;obtain ⟨u,rfl,ru⟩:=rv.one;obtain ⟨z,aH,n,r,hl,e⟩:=I.ur hH;refine call_meets F.slot_list_append ⟨_,e,rfl⟩ F.entry_list_append (F.args_list_append_2 _ _) (PySem.list_append l aH.toArray n u (by rw [zR];omega)) ⟨e,?_⟩;refine ⟨.bL,_,I.VI (its':=aH++[u]) hH e (by simp) (r.append (.cons ru .nil)) ?_,rfl,q⟩;rw [zG,zp];omega
noncomputable def acw:R2:=λx y H Q=>∃ l b xs zs,x=.ref l/\y=.ref b/\H l=some (.lst xs)/\H b=some (.lst zs)/\xs.length + zs.length<=sizeLine/\∀ p,H p=none->Q (.ref p) (upd H p (.lst (xs++zs)))
theorem S2:gI X (binaryOp .Add) acw:=by
 intro af s σ H x y v u Q I rx ry h;obtain ⟨l,b,xs,zs,rfl,rfl,hH,hB,hz,q⟩:=h;cases rx;cases ry;obtain ⟨z,aH,n,r,hl,e⟩:=I.ur hH;obtain ⟨z2,dO,n2,r2,Rc,e2⟩:=I.ur hB;refine PySem.P.add_list e e2 ?_ (by rw [zR,zR];omega);have ea:aH.toArray++dO.toArray=(aH++dO).toArray:=by simp
 rw [ea];exact ⟨.ref _,_,I.aaf (t':=s.toks) (r.append r2) (by rw [zG];omega),rfl,q _ I.fresh⟩
noncomputable def acu:R2:=λx y H Q=>∃ l k xs,x=.ref l/\y=.int k/\H l=some (.lst xs)/\-(2 ^ 63)<=k/\k < 2 ^ 63/\xs.length * k.toNat<=sizeLine /\
 ∀ p,H p=none->Q (.ref p) (upd H p (.lst (List.replicate k.toNat xs).flatten))
theorem len_rep {α:Type}(xs:List α)(k:Nat):(List.replicate k xs).flatten.length=k * xs.length:=by
 induction k with
 | zero=>simp
 | succ k ih=>rw [yp,xV,zG,ih,yV,Nat.add_comm]
theorem SY:gI X (binaryOp .Mult) acu:=by
 intro af s σ H x y v u Q I rx ry h;obtain ⟨l,k,xs,rfl,rfl,hH,h1,h2,hz,q⟩:=h;cases rx;obtain ⟨t,rfl⟩:=ry;obtain ⟨z,aH,n,r,hl,e⟩:=I.ur hH;have hlen:aH.toArray.size * k.toNat<=sizeLine:=by rw [zR,<- hl];exact hz
 have ady:¬ aH.toArray.size * k.toNat > (2 ^ 63 - 1) / 8:=by
  have:(sizeLine:Nat)<=(2 ^ 63 - 1) / 8:=by decide
  omega
 have adt:¬ (!Builtin.List.listFitsIndex k)=true:=by
  rw [fitsIndex_both h1 h2];exact zP
 have TL:¬ Builtin.List.listTooLong (aH.toArray.size * k.toNat)=true:=by
  rw [vN hlen];exact zP
 have adg:List.foldl (λx1 x2=>x1++x2) #[] (List.replicate (if aH.toArray.isEmpty=true then 0 else k.toNat) aH.toArray)=(List.replicate k.toNat aH).flatten.toArray:=by
  have f0:∀ m:Nat,List.foldl (λx1 x2=>x1++x2) #[] (List.replicate m aH.toArray)=(List.replicate m aH).flatten.toArray:=λm=>by
   have:=foldl_rep aH m [];rw [yc] at this;exact this
  rw [f0];cases aH with
  | nil=>simp
  | cons a r'=>rw [if_neg (by simp)]
 refine wpAny_binaryOp_repeat_ref (T := "list") (U := "int") (by decide) ⟨_,e,rfl⟩ (λs'=>typeIs_int s' k t) noFill_list_mul F.fills_int_mul F.slot_int_rmul repeat_list F.slot_int_index.lookup
  (call_meets F.slot_int_rmul (typeIs_int s k t) F.entry_int_rmul (F.args_int_rmul_2 _ _) (int___rmul___int_list k t l aH.toArray n)
   ⟨e,rfl,⟨_,e,rfl⟩,call_meets F.slot_list_mul ⟨_,e,rfl⟩ F.entry_list_mul (F.args_list_mul_2 _ _) (AutoListH.list___mul___list_int_3 l aH.toArray n k t adt ady TL) ⟨e,?_⟩⟩)
 rw [adg];exact ⟨.ref _,_,I.aaf (t':=s.toks) (r.rep k.toNat) (by rw [len_rep,xb];exact hz),rfl,q _ I.fresh⟩
end
section
variable {prog:Program}{w:World}{A:Around}{E:Value->Shared->Prop}{s:Shared}
set_option maxRecDepth 100000 in
end
section
variable {X:Cx}
end
end L2
namespace Att
open PySem PySem.W PySem.Calls PyProof.Rows
theorem mq {P:Params}{h:Heap}:∀ (ns:List Int) (vs:List Value),WellAll P h vs (ns.map WData.int)->IntsAre vs ns:=by
 intro ns;induction ns with
 | nil=>
  intro vs w;rw [yN] at w;cases w;exact .nil
 | cons n ns ih=>
  intro vs w;rw [zc] at w;cases w with
  | cons a b=>
   cases a;exact .cons _ _ (ih _ b)
theorem QC {l:OpenLaw}{n:Nat}(hn:l.most=some n){P:Params}{h:Heap}{args:List WData}{vals:List Value}
  (VX:l.row.toRowW.claim.pre args=true) (hwl:WellAll P h vals args) :
  ∃ a vs ns,vals=[Value.ref a]/\args=[WData.list (ns.map WData.int)]/\h.get? a=some { cls:=.type "list", data:=.seq vs.toArray }/\IntsAre vs ns/\ns.length<=n:=by
 have hsh:WShape.hasAll [] args [.list .int]=true:=(pre_splitW VX).1;have hc:l.pre.holds [] { args:=args }=true:=(pre_splitW VX).2;obtain ⟨d,r,rfl,h1,h2⟩:=hasAllW_cons hsh;obtain rfl:=hasAllW_nil h2;obtain ⟨xs,rfl,h3⟩:=hasW_list h1;obtain ⟨ns,rfl⟩:=items_int h3;have hlen:ns.length<=n:=by
  unfold OpenLaw.pre at hc;have h4:(WTm.not (.lt (.lit (.int (n:Int))) (.len (.arg 0)))).holds [] { args:=[.list (ns.map .int)] }=true:=by
   have h4:=(holds_andW hc).1;rw [hn] at h4;exact h4
  have h5:=condW_of h4 (w_not (w_lt w_lit (w_len_list (w_arg rfl))));rw [zA] at h5;refine Nat.le_of_not_lt λq=>?_;have q':(n:Int) < ((ns.length:Nat):Int):=by omega
  first
   | (rw [decide_eq_true q'] at h5;exact absurd h5 (by decide))
   | (simp at h5;omega)
 cases hwl with
 | cons w1 w2=>
  cases w2;cases w1 with
  | list ho fL=>exact ⟨_,_,ns,rfl,rfl,ho,mq ns _ fL,hlen⟩
theorem QF (l:OpenLaw)(args:List WData):l.row.toRowW.claim.post args (.bool true) args=true:=
 postW_of (r:=l.row.toRowW) (X:=(true == true))
  (show WShape.has [] (.bool true) .bool=true by first | rfl | decide | simp [WShape.has,WShape.arms,WShape.armsAll])
  (show (WTm.eq .res (.lit (.bool true))).value [] { args:=args,res:=some (.bool true),after:=args }=some (.bool (true == true)) from w_eq_bool (w_res rfl) w_lit) rfl
theorem NS {l:OpenLaw}{n:Nat}{q:Program}{loose:List Str}{XP:(Str->Option Value)->Heap->Prop}{YP:World->Heap->Prop}{d:DefRec}
  (hn:l.most=some n) (hdf:d.params.defaults=[])
  (call:∀ (w:World) (dh bH:Shared) (mg mb:Str->Option Value) (fa:Addr) (o:Obj) (pm cd doc:Value) (a:Addr) (vs:List Value) (ns:List Int),
   Ground q loose [] XP w dh mg mb bH.heap->YP w bH.heap ->
   bH.heap.get? fa=some o->o.data=.func (docDef d.name d.params d.body d.scope pm cd doc)->bH.heap.CodeRec cd d.name->mg d.name=some (.ref fa) ->
   bH.heap.get? a=some { cls:=.type "list", data:=.seq vs.toArray }->IntsAre vs ns->ns.length<=n->bH.gens=#[] ->
   codeAny (model l.prog w) callerA (.call (.ref fa) ⟨[.ref a],[]⟩) (λr s'=>r=.ok (.ret (.bool true))/\OldK bH.heap s'.heap/\s'.os=bH.os/\AllBare s'.gens) bH) :
  WalkO q loose XP YP l.row.toRowW d [] (λf vs=>PySem.call f vs):=by
 intro w dh bH mg mb G Y fa o pm cd doc dV kV ho hd Nl hD hmg hg args vals as VX ahH hrd hwl hlo;obtain rfl:dV=.none:=Dflts.none hD hdf;obtain rfl:kV=.none:=Dflts.noKw hD;obtain ⟨a,vs,ns,rfl,rfl,Yw,hints,hlen⟩:=QC hn VX hwl;refine enter_call (codeAny_mono (call w dh bH mg mb fa o pm cd doc a vs ns G Y ho (fd_plain hd) Nl hmg Yw hints hlen hg) λr s' hq=>?_);obtain ⟨rfl,h2,h3,h4⟩:=hq;exact ⟨.inl ⟨.bool true,.bool true,[],rfl,λ_=>rfl,.bool true,QF l _,λ_=>⟨List.Pairwise.nil,λ_ hm=>(nomatch hm)⟩⟩,h2,h3,h4⟩
section
variable {prog:Program}{w:World}{A:Around}{E:Value->Shared->Prop}{s:Shared}{K:Frag}
noncomputable def ledger (h:Heap)(L d:Addr):List (Addr×Obj):=(List.range h.objs.size).filterMap λa=>if a=L\/a=d then none else (h.get? a).map λo=>(a,o)
end
end Att
namespace L2
open PySem PySem.Spec PyProof.Rows
theorem rO:∀ {vs:List Value}{ns:List Int},IntsAre vs ns->Vals (ns.map V.int) vs
 | _,_,.nil=>.nil
 | _,_,.cons n t h=>.cons ⟨t,rfl⟩ (rO h)
noncomputable def inClass (s:Stmt)(j:Nat):Stmt:=match s with
 | .ClassDef _ _ _ body _ _ _ _ _ _ _=>body.getD j (.Pass ⟨0,0,0,0⟩)
 | _=>.Pass ⟨0,0,0,0⟩
noncomputable def mQ (s:Stmt):Arguments:=match s with
 | .FunctionDef _ a _ _ _ _ _ _ _ _=>a
 | _=>{ posonlyargs:=[],args:=[],vararg:=none,kwonlyargs:=[],kw_defaults:=[],kwarg:=none,defaults:=[] }
noncomputable def aq (s:Stmt):List Stmt:=match s with
 | .FunctionDef _ _ b _ _ _ _ _ _ _=>b
 | _=>[]
noncomputable def aB (s:Stmt):Scope:=match s with
 | .FunctionDef _ _ _ _ _ _ sc _ _ _=>sc
 | _=>{ kind:=.function,names:=[],isGenerator:=false,isCoroutine:=false }
abbrev cB:Uw:=λ_ _ _ _ _ _=>False
abbrev E0:XK:=λ_ _ _=>False
theorem aC {X:Cx}:Passes cB X E0:=λ_ _ _ _ _ _ _ h=>h.elim
structure bA (K:PySem.W.Frag) (x qual:Str) (st:Stmt) (f:Addr) (fd:FuncData):Prop where
 ex:∃ (oc:Value) (od:Option Addr) (kV doc pm:Value) (an:Option Addr) (bW ct:Value) (VD:Array (Option Value)),
  fd=xm x qual (mQ st) (aq st) (aB st) .none kV doc pm an bW ct/\K.lookup f=some ⟨oc,od,.func fd,VD⟩/\PySem.W.codeIn K bW qual=true
 kp:zF K (.ref f)=true
section
variable {P:Program}{w:World}{K:PySem.W.Frag}{mg:Str->Option Value}{base:Heap}
theorem bA.ok {x qual:Str}{st:Stmt}{f:Addr}{fd:FuncData}{N ps:List Str}{k:Nat}{sp:Sp}(F:bA K x qual st f fd)(S:aF N ps (aB st))(len:∀ vs H Q E,sp vs H Q E->vs.length=ps.length)
  (jL:∀ (bW:Value) (A:Around) (outer:List Env) (s:Shared) (H:Hp) (vs:List V) (Q:VK) (E:XK),cN k (A.deeper (envOfC qual (aB st) s.heap.objs.size f bW))->sp vs H Q E ->
   ∃ t,tE (gA cB P w K mg base N qual (aB st) f bW A outer s H E).S3 (aq st) t/\t { nx:=λ_ H'=>Q .bL H',rt:=Q } (start N vs) H):aZ P w K mg base cB (k + 1) f fd ps sp:=by
 obtain ⟨oc,od,kV,doc,pm,an,bW,ct,VD,rfl,lk,Nl⟩:=F.ex;refine WW lk Nl S len λA outer s H vs Q E hr OQ=>?_;obtain ⟨t,h,q⟩:=jL bW A outer s H vs Q E hr OQ;exact ⟨t,h.S3,q⟩
theorem bA.binds {x qual:Str}{st:Stmt}{f:Addr}{fd:FuncData}{ps:List Str}(F:bA K x qual st f fd)
  (h:∀ (kV doc pm:Value) (an:Option Addr) (bW ct:Value) (us:List Value),us.length=ps.length->bindArgs (xm x qual (mQ st) (aq st) (aB st) .none kV doc pm an bW ct) ⟨us,[]⟩=pure (ps.zip us)):Binds K fd ps []:=by
 obtain ⟨oc,od,kV,doc,pm,an,bW,ct,VD,rfl,lk,Nl⟩:=F.ex;exact .all (h kV doc pm an bW ct)
theorem fun_mk {x qual:Str}{st:Stmt}{f:Addr}{oc:Value}{od an:Option Addr}{VD:Array (Option Value)}{kV doc pm bW ct:Value}(l:K.lookup f=some ⟨oc,od,.func (xm x qual (mQ st) (aq st) (aB st) .none kV doc pm an bW ct),VD⟩)
  (c:PySem.W.codeIn K bW qual=true) (k:zF K (.ref f)=true):bA K x qual st f (xm x qual (mQ st) (aq st) (aB st) .none kV doc pm an bW ct):=⟨⟨oc,od,kV,doc,pm,an,bW,ct,VD,rfl,l,c⟩,k⟩
end
section
variable {X:Cx}
theorem pv (i:Nat){x:Str}{pos:Pos}(hN:X.N[i]?=some x:=by rfl)(hv:Xj X.env.scope x=true:=by rfl)(hd:(x == ("__debug__" : Str))=false:=by decide)
  (Nl:(x == ("__classdict__" : Str))=false:=by decide):PE X (.Name x pos) (pV i):=XQ hN (UN hv) hd Nl
end
theorem acY {A B:Prop}(h:B):if false=true then A else B:=by rw [if_neg zP];exact h
theorem aak {c A B:Prop}[Decidable c](hc:c)(h:B):if (!decide c)=true then A else B:=by rw [decide_eq_true hc];exact acY h
def aG (H H':Hp):Prop:=∀ b o,H b=some o->H' b=some o
theorem aG.refl (H:Hp):aG H H:=λ_ _ h=>h
theorem aG.trans {H H1 H2:Hp}(a:aG H H1)(b:aG H1 H2):aG H H2:=λc o h=>b c o (a c o h)
theorem aG.free {H H':Hp}(e:aG H H'){l:Addr}(h:H' l=Option.none):H l=Option.none:=by
 cases q:H l with
 | none=>rfl
 | some o=>
  rw [e l o q] at h;cases h
theorem aG.seq {K:PySem.W.Frag}{H H':Hp}{a:Addr}{xs:List V}(e:aG H H')(h:aU K H a xs):aU K H' a xs:=by
 rcases h with (h | ⟨o,h⟩) | h
 ·exact .inl (.inl (e _ _ h))
 ·exact .inl (.inr ⟨o,e _ _ h⟩)
 ·exact .inr h
theorem sE {prog:Program}{w:World}{A:Around}{R:Result->Shared->Prop}{s:Shared}{elt target iter:Expr}{ifs:List Expr}{scope:Scope}{pos:Pos}{it acc:Value}{env:Env}(I:Nat->Shared->Prop)
  (turn:∀ n s,I n s->wpAny (model prog w) A (pyNext it) (λr bH=>match r with
   | none=>R (.ok .next) bH
   | some v=>wpAny (model prog w) A (letOwnedTupleGo target it v) (λ_ Wz=>wpAny (model prog w) A (assign target env v) (λ_ kB=>
     wpAny (model prog w) A (forIn ifs true λc r=>if r=true then do let ok <- isTrue c env (eval c env);pure (ForInStep.yield ok) else pure (ForInStep.yield r)) (λok vz=>
      if ok=true then wpAny (model prog w) A (eval elt env) (λx ZM=>
       wpAny (model prog w) A (call (.builtin "list.append") [acc,x]) (λ_ ZL=>∃ m,m < n/\I m ZL) (λ_ _=>False) ZM) (λ_ _=>False) vz
      else ∃ m,m < n/\I m vz) (λ_ _=>False) kB) (λ_ _=>False) Wz) (λ_ _=>False) bH) (λ_ _=>False) s)
  (n:Nat) (h:I n s) :
  codeAny (model prog w) A (.compLoop (.ListComp elt [⟨target,iter,ifs,0⟩] scope pos) 0 it acc env) R s:=by
 refine codeAny_loop rfl I (λn s hI=>?_) n h;show wpAny _ A ((compTurn (.ListComp elt [⟨target,iter,ifs,0⟩] scope pos) 0 it acc env).onRaise (λx=>do noteFrame x env;theTreesLotGoes x)) _ _ s;refine wpAny_noted ?_;rw [compTurn_list];refine wpAny_bind (wpAny_standAt (wpAny_bind (wpAny_mono (turn n s hI) (λr bH gw=>?_) λ_ _ h'=>h'.elim)));cases r with
 | none=>exact wpAny_pure gw
 | some v=>
  refine wpAny_bind (wpAny_mono gw (λ_ Wz aap=>?_) λ_ _ h'=>h'.elim);refine wpAny_bind (wpAny_mono aap (λ_ kB TF=>wpAny_bind (wpAny_mono TF (λok vz VS=>?_) λ_ _ h'=>h'.elim)) λ_ _ h'=>h'.elim);cases ok with
  | false=>exact wpAny_pure ⟨rfl,VS⟩
  | true=>
   exact wpAny_bind (wpAny_bind (wpAny_mono VS (λx ZM ac1=>wpAny_bind (wpAny_mono ac1 (λ_ ZL ac0=>wpAny_pure (wpAny_pure ⟨rfl,ac0⟩)) λ_ _ h'=>h'.elim)) λ_ _ h'=>h'.elim))
noncomputable def iI (names:List (Str×NameKind))(env:Env)(cs:List (Str×Addr)):List (Str×Addr):=
 names.foldl (λcs p=>if p.2=.free then (match env.cells.lookup p.1 with | some c=>(p.1,c)::cs | none=>cs) else cs) cs
theorem jT {env:Env}:∀ (names:List (Str×NameKind)) (cs:List (Str×Addr)),(∀ y∈names,y.2=.free->∃ c,env.cells.lookup y.1=some c) ->
  (forIn names cs λx r=>(if (x.2 == NameKind.free)=true then do let a <- cellOf env x.1;pure (ForInStep.yield ((x.1,a)::r)) else pure (ForInStep.yield r):Sem _))=pure (iI names env cs)
 | [],cs,_=>by simp [iI]
 | (n,k)::r,cs,h=>by
  have ih:=λcs=>jT r cs λy hy=>h y (zn _ hy);simp only [List.forIn_cons];by_cases hk:k=.free
  ·subst hk;obtain ⟨c,e⟩:=h (n,.free) yF rfl;have e':env.cells.lookup n=some c:=e;have ec:cellOf env n=pure c:=by unfold cellOf;rw [e']
   simp only [beq_self_eq_true,if_true,ec,pure_bind];rw [ih];simp [iI,e']
  ·have hb:(k == NameKind.free)=false:=by simpa using hk
   simp only [hb,zg,if_false,pure_bind];rw [ih];simp [iI,hk]
theorem iV {scope:Scope}{env:Env}(h:∀ y∈scope.names,y.2=.free->∃ c,env.cells.lookup y.1=some c):closureFor scope env=pure (iI scope.names env []):=by unfold closureFor;have:=jT scope.names [] h;simp only [bind_pure];exact this
theorem NH {env:Env}:∀ (names:List (Str×NameKind)) (cs:List (Str×Addr)) (x:Str) (c:Addr),(x,c)∈iI names env cs->(x,c)∈cs\/env.cells.lookup x=some c
 | [],cs,x,c,h=>.inl h
 | (n,k)::r,cs,x,c,h=>by
  have h':(x,c)∈iI r env (if k=.free then (match env.cells.lookup n with | some c=>(n,c)::cs | none=>cs) else cs):=h;rcases NH r _ x c h' with q | q
  ·split at q
   ·cases e:env.cells.lookup n with
    | none=>rw [e] at q;exact .inl q
    | some d=>
     rw [e] at q;rcases zH.mp q with z | z
     ·cases z;exact .inr e
     ·exact .inl z
   ·exact .inl q
  ·exact .inr q
theorem sW {env:Env}:∀ (names:List (Str×NameKind)) (cs:List (Str×Addr)) (x:Str),(∃ c,(x,c)∈cs)->∃ c,(x,c)∈iI names env cs
 | [],cs,x,h=>h
 | (n,k)::r,cs,x,⟨c,h⟩=>by
  refine sW r _ x ?_;dsimp only;split
  ·split
   ·exact ⟨c,zn _ h⟩
   ·exact ⟨c,h⟩
  ·exact ⟨c,h⟩
theorem NI {env:Env}:∀ (names:List (Str×NameKind)) (cs:List (Str×Addr)) (x:Str),(x,NameKind.free)∈names->(∃ c,env.cells.lookup x=some c)->∃ c,(x,c)∈iI names env cs
 | [],_,_,h,_=>by simp at h
 | (n,k)::r,cs,x,h,⟨c,e⟩=>by
  rcases zH.mp h with z | z
  ·have e1:x=n:=congrArg Prod.fst z;have e2:NameKind.free=k:=congrArg Prod.snd z;subst e1 e2;refine sW r _ x ⟨c,?_⟩;dsimp only;rw [if_pos rfl,e];exact yF
  ·exact NI r _ x z ⟨c,e⟩
theorem iS {β:Type}:∀ (l:List (Str×β)) (x:Str) (c:β),(x,c)∈l->∃ d,l.lookup x=some d
 | (n,d)::r,x,c,h=>by
  cases hx:x == n with
  | true=>exact ⟨d,by simp [yu,hx]⟩
  | false=>
   simp only [yu,hx];rcases zH.mp h with z | z
   ·cases z;simp at hx
   ·exact iS r x c z
theorem ww {names:List (Str×NameKind)}{env:Env}{x:Str}{c:Addr}(h:(iI names env []).lookup x=some c):env.cells.lookup x=some c:=by
 rcases NH names [] x c (yX h) with q | q
 ·simp at q
 ·exact q
theorem sV {names:List (Str×NameKind)}{env:Env}{x:Str}{c:Addr}(h:(x,NameKind.free)∈names)(e:env.cells.lookup x=some c):(iI names env []).lookup x=some c:=by obtain ⟨d,hd⟩:=NI names [] x h ⟨c,e⟩;obtain ⟨d',Rg⟩:=iS _ _ _ hd;have:=ww Rg;rw [e] at this;cases this;exact Rg
theorem di {env:Env}:∀ {names:List (Str×NameKind)}{x:Str},names.lookup x=some .free ->
  (names.map λ(n,k)=>if (k == NameKind.free && env.scope.kind == .function && env.kindOf n == some .cell) then (n,NameKind.cell) else (n,k)).lookup x=some .cell \/
  (names.map λ(n,k)=>if (k == NameKind.free && env.scope.kind == .function && env.kindOf n == some .cell) then (n,NameKind.cell) else (n,k)).lookup x=some .free
 | [],_,h=>by simp at h
 | (n,k)::r,x,h=>by
  have ih:=@di env r x;show xO x ((if (k == NameKind.free && env.scope.kind == .function && env.kindOf n == some .cell)=true then (n,NameKind.cell) else (n,k))::_)=_\/xO x ((if (k == NameKind.free && env.scope.kind == .function && env.kindOf n == some .cell)=true then (n,NameKind.cell) else (n,k))::_)=_;by_cases hc:(k == NameKind.free && env.scope.kind == .function && env.kindOf n == some .cell)=true
  ·rw [if_pos hc];cases hx:x == n with
   | true=>left;simp [yu,hx]
   | false=>
    simp only [yu,hx] at h ⊢;exact ih h
  ·rw [if_neg hc];cases hx:x == n with
   | true=>
    simp only [yu,hx] at h;cases h;right;simp [yu,hx]
   | false=>
    simp only [yu,hx] at h ⊢;exact ih h
structure aV (own:List Str) (caps:List Nat) (N:List Str) (sc scope:Scope):Prop where
 kind:scope.kind=.function
 um:∀ y∈scope.names,y.2≠.cell
 loc:∀ y∈scope.names,y.2=.local->scope.names.lookup y.1=some .local
 fr:∀ y∈scope.names,y.2=.free->sc.names.lookup y.1=some .cell\/sc.names.lookup y.1=some .free
 Zt:∀ i∈caps,i < N.length/\scope.names.lookup ((N[i]?).getD Str.empty)=some .free
noncomputable def f7 (X:Cx)(own:List Str)(caps:List Nat)(scope:Scope)(s:Shared)(H:Hp)(fp:List Addr)(C:Addr):Cx:=
 { X with N:=own++caps.map (λi=>(X.N[i]?).getD Str.empty),dh:=s,Us:=H,env:=compEnvC scope (iI scope.names X.env []) C X.env,outer:=X.stack,ex:=fp,fn:=λ_=>false,pn:=[],xe:=λ_ _=>False }
noncomputable def dW (n:Nat)(caps:List Nat)(σ:St):St:=List.replicate n none++caps.map λi=>(σ[i]?).join
section
variable {X:Cx}{af:List (Addr×Obj)}{σ:St}{H:Hp}{s:Shared}
theorem jP {scope:Scope}{env:Env}(nc:∀ y∈scope.names,y.2≠.cell){x:Str}{k:NameKind}(hk:k=.cell\/k=.free)(h:(relabel scope env).names.lookup x=some k):(x,NameKind.free)∈scope.names:=by
 have hm:=yX h;obtain ⟨⟨n,k0⟩,hy,e⟩:=zK.mp hm;dsimp only at e;split at e
 ·rename_i hc;simp only [Bool.and_eq_true,beq_iff_eq] at hc;have e1:n=x:=congrArg Prod.fst e;subst e1;rw [hc.1.1] at hy;exact hy
 ·cases e;rcases hk with z | z
  ·subst z;exact absurd rfl (nc _ hy)
  ·subst z;exact hy
theorem Nf {own:List Str}{caps:List Nat}{scope:Scope}{fp:List Addr}{D C:Addr}{o:Obj}{h1:Heap}{tk:Nat}(I:Inv X af σ H s)(S:aV own caps X.N X.env.scope scope)
  (f:∀ b∈fp,rF X af H b) (fl:∀ b∈fp,b < s.heap.objs.size) (hD:s.heap.objs.size<=D) (hC:s.heap.objs.size<=C) (V9:D≠C) (keep:∀ b o,s.heap.get? b=some o->h1.get? b=some o)
  (hns:h1.Ns C λ_=>none) (TX:h1.get? D=some o) (ho:∀ v,o.data≠.cell v) :
  Inv (f7 X own caps scope s H fp C) [(D,o)] (dW own.length caps σ) H { s with heap:=h1,toks:=tk }:=by
 have sub:∀ b∈RP X.stack,b < s.heap.objs.size:=λb hb=>by
  rcases zH.mp (I.kE b hb) with e | hb
  ·rw [e];exact I.lt
  ·by_cases q:b < s.heap.objs.size
   ·exact q
   ·exact absurd hb (I.aaa (Nat.le_of_not_lt q))
 refine ⟨⟨I.ok.mod,S.kind,I.ok.glob,I.ok.blt,hC,λx y c h1 h2=>I.ok.inj x y c (ww h1) (ww h2),λx hx=>?_,λx c z _=>absurd (show false=true from z) zP,I.ok.hd,I.ok.frames,.inl rfl,
   λb hb=>⟨zY (zT (fl b hb) hC),λx c e=>(f b hb).2.2.2.2.1 x c (ww e)⟩,I.bs,yC I.ok.Ui I.sz,λb ob e hb=>?_,λb hb hs=>?_,I.stack,I.Pj⟩,
  rfl,I.bare,Un.kept keep,⟨_,hns,λi x v e1 e2 e3=>?_⟩,λx c e=>?_,I.bF.fresh hC,λx c e=>I.iU x c (ww e),λp hp=>?_,I.bF.kept keep,?_⟩
 ·have hm:(x,NameKind.free)∈scope.names:=by
   rcases hx with hx | hx
   ·exact jP S.um (.inl rfl) hx
   ·exact jP S.um (.inr rfl) hx
  obtain ⟨c,hc⟩:=I.ok.has x (S.fr _ hm rfl);exact ⟨c,sV hm hc⟩
 ·rcases (f b hb).2.2.2.1 with z | z
  ·exact I.ok.S5 b ob e z
  ·exact absurd (zT (Heap.lt_size e) (yC I.ok.Ui z)) (yS _)
 ·rcases zH.mp (I.kE b hs) with e | e
  ·exact (f b hb).2.1 e
  ·exact (f b hb).2.2.1 e
 ·have e2':(List.replicate own.length (none:Option V)++caps.map λi=>(σ[i]?).join)[i]?=some (some v):=e2;have e1':(own++caps.map (λi=>(X.N[i]?).getD Str.empty))[i]?=some x:=e1;have hi:own.length<=i:=by
   by_cases q:i < own.length
   ·rw [zX (by simpa using q),List.getElem?_replicate,if_pos q] at e2';cases e2'
   ·exact Nat.le_of_not_lt q
  rw [zZ (by simpa using hi),List.length_replicate,zS] at e2';rw [zZ hi,zS] at e1';cases ek:caps[i - own.length]? with
  | none=>rw [ek] at e1';cases e1'
  | some k=>
   rw [ek] at e1' e2';have ex:(X.N[k]?).getD Str.empty=x:=Option.some.inj e1';have ev:(σ[k]?).join=some v:=Option.some.inj e2';have ev':σ[k]?=some (some v):=by
    cases q:σ[k]? with
    | none=>rw [q] at ev;cases ev
    | some y=>rw [q] at ev;exact congrArg some ev
   obtain ⟨hl,hf⟩:=S.Zt k (zB ek);have eN:X.N[k]?=some x:=by
    rw [zO hl] at ex ⊢;exact congrArg some ex
   rw [ex] at hf;have hm:=yX hf;have hfr:=S.fr _ hm rfl;obtain ⟨m,_,hl'⟩:=I.loc;obtain ⟨u,ru,lk⟩:=hl' k x v eN ev' (.inr hfr);refine ⟨u,ru,.inr ⟨di hf,?_⟩⟩;rcases lk with ⟨kl,_⟩ | ⟨_,c,hc,ob,UB,hd⟩
   ·have kl':X.env.scope.names.lookup x=some .local:=kl;rcases hfr with z | z
    ·have z':X.env.scope.names.lookup x=some .cell:=z;rw [z'] at kl';cases kl'
    ·have z':X.env.scope.names.lookup x=some .free:=z;rw [z'] at kl';cases kl'
   ·exact ⟨c,sV hm hc,ob,keep c ob UB,hd⟩
 ·obtain ⟨v,ob,UB,hd⟩:=I.cell x c (ww e);exact ⟨v,ob,keep c ob UB,hd⟩
 ·have e:p=(D,o):=by simpa using (show p∈[]++[(D,o)] from hp)
  subst e;refine ⟨TX,I.bF.fresh hD,V9,λz=>?_,ho⟩;exact absurd (zT (sub D z) hD) (yS _)
 ·show (dW own.length caps σ).length=(own++caps.map (λi=>(X.N[i]?).getD Str.empty)).length;simp [dW]
noncomputable def PTs (X:Cx)(ifs:List Expr)(t:TT):Prop:=
 ∀ (af:List (Addr×Obj)) (s:Shared) (σ:St) (H:Hp) (Q:Bool->Hp->Prop),Inv X af σ H s->t σ H Q ->
  wpAny (model X.prog X.w) X.A (forIn ifs true λc r=>if r=true then do let ok <- isTrue c X.env (eval c X.env);pure (ForInStep.yield ok) else pure (ForInStep.yield r)) (TP X af σ Q) X.xe s
def tR:TT:=λ_ H Q=>Q true H
theorem qU:PTs X [] tR:=λ_ s σ H Q I h=>wpAny_tests_nil ⟨H,I,h⟩
theorem uf {c:Expr}{t:TT}(h:PT X c t):PTs X [c] t:=λaf s σ H Q I q=>wpAny_tests_one (h af s σ H Q I q)
noncomputable def Wy (n:Nat)(caps:List Nat)(wi:TI)(g:TG)(tc:TT)(te:TE):TE:=fun σ H Q=>wi σ H λJ H1=>∃ W:Nat->Nat->St->List V->Hp->Prop,(∃ m,W 0 m (dW n caps σ) [] H1)/\∀ i m τ acc H,W i m τ acc H ->
 (J.stop i H/\acc.length<=sizeLine/\∀ p,H p=none->Q (.ref p) (upd H p (.lst acc))) \/
 (J.go i H/\acc.length < sizeLine/\∀ x H',J.tG i H x H'->g x τ H' fun bR H2=>tc bR H2 λb H3=>if b=true then te bR H3 λy H4=>∃ m',m' < m/\W (i + 1) m' bR (acc++[y]) H4 else ∃ m',m' < m/\W (i + 1) m' bR acc H3)
theorem ic.Ww {P:Program}{w:World}{H:Hp}{h:Heap}{a:Addr}{o:HO}(x:ic P w H h)(hn:H a=none)(new:bJ P w (upd H a o) h a o):ic P w (upd H a o) h:=λb u e=>by
 by_cases hb:b=a
 ·subst hb;rw [xq] at e;cases e;exact new
 ·rw [wF hb] at e;exact (x b u e).dX (λc v _ q=>q) (λc q=>by rw [wF (wC q hn)];exact q) λc xs q=>by rw [wF (wC q hn)];exact q
theorem qQ {own:List Str}{caps:List Nat}{elt tg iter:Expr}{ifs:List Expr}{scope:Scope}{pos:Pos}{wi:TI}{g:TG}{tc:TT}{te:TE}(hc:X.calm=true)(S:aV own caps X.N X.env.scope scope)(hi:PI X tg iter wi)
  (hg:∀ s H fp C,PG (f7 X own caps scope s H fp C) tg g) (ht:∀ s H fp C,PTs (f7 X own caps scope s H fp C) ifs tc) (he:∀ s H fp C,PE (f7 X own caps scope s H fp C) elt te)
  (hs:∀ x,foldedSetIterable iter X.env x=pure x:=by intro _;rfl):PE X (.ListComp elt [⟨tg,iter,ifs,0⟩] scope pos) (Wy own.length caps wi g tc te):=by
 intro af s σ H Q I h;rw [eval_ListComp];refine wpAny_comprehension_free (use:=none) (cl:=iI scope.names X.env []) rfl hs (iV λy hy e=>I.ok.has y.1 (S.fr y hy e)) S.kind S.loc
  (wpAny_mono (hi af s σ H _ I h) (λv s1 h1=>bG h1 λitv s2 h2=>?_) λ_ _ e=>e)
 obtain ⟨it,fp,tn,J,H2,e,I2,T,vc,f2,W,⟨m0,w0⟩,turn⟩:=h2;subst e;refine wpAny_newObj_type (wpAny_newFunctionEnv S.um (by intro y hy;simp at hy) (λgw je fZ=>?_) S.kind);dsimp only at je fZ ⊢;generalize YE:s2.heap.push { cls:=.type "list", dict:=none,data:=.seq ([]:List Value).toArray }=G at je fZ ⊢;have hG:G.objs.size=s2.heap.objs.size + 1:=by rw [<-YE,Heap.size_push]
 have V9:s2.heap.objs.size≠G.objs.size:=by rw [hG];exact zY (xa _)
 have Wa:s2.heap.objs.size<=G.objs.size:=by rw [hG];exact xP _
 have below:∀ b,b < s2.heap.objs.size->b≠G.objs.size:=λb hb=>by rw [hG];exact zY (yn hb)
 have old:∀ b o,s2.heap.get? b=some o->gw.get? b=some o:=λb o e=>fZ.extBut b o (below b (Heap.lt_size e)) (Heap.get?_push_of_some _ (YE ▸ Heap.get?_push_of_some _ e));have TX:gw.get? s2.heap.objs.size=some { cls:=.type "list", dict:=none,data:=.seq ([]:List Value).toArray }:=fZ.extBut _ _ V9 (Heap.get?_push_of_some _ (YE ▸ Heap.get?_push_size _ rfl));have fl:∀ b∈fp,b < s2.heap.objs.size:=λb hb=>let ⟨o,e,_⟩:=T.obj _ _ vc b hb;Heap.lt_size e;have uz:gw.Ns G.objs.size λ_=>none:=je;have I4:=Nf (tk:=s2.toks + ([]:List (Str×Value)).length) I2 S f2 fl (zD _) Wa V9 old uz TX (λv z=>nomatch z);have u9:tn 0 gw:=T.keep _ _ _ vc λb _ o e=>old b o e;generalize hs4:({ s2 with heap:=gw,toks:=s2.toks + ([]:List (Str×Value)).length }:Shared)=s4 at I4 ⊢;have e4:s4.heap=gw:=by rw [<-hs4]
 rw [<-e4] at u9
 -- Wx loop
 have loop:codeAny (model X.prog X.w) X.A (.compLoop (.ListComp elt [⟨tg,iter,ifs,0⟩] scope pos) 0 (.ref it) (.ref s2.heap.objs.size) (compEnvC scope (iI scope.names X.env []) G.objs.size X.env))
   (compPost (model X.prog X.w) X.A X.xe none (EP X af σ Q) (.ref s2.heap.objs.size) G.objs.size) s4:=by
  let Y:=f7 X own caps scope s2 H2 fp G.objs.size
  have ny:∀ {H':Hp}{aH:List Value}{n:Nat},(∀ b∈fp,H' b=none)->∀ b∈fp,rF Y [(s2.heap.objs.size,({ cls:=.type "list", data:=.seq aH.toArray n }:Obj))] H' b:=λ{H' aH n} hn b hb=>by
   refine ⟨hn b hb,below b (fl b hb),λz=>?_,.inl hb,λx c e=>(f2 b hb).2.2.2.2.1 x c (ww e),λp hp=>?_⟩
   ·rcases zH.mp (I2.kE b z) with e | e
    ·exact (f2 b hb).2.1 e
    ·exact (f2 b hb).2.2.1 e
   ·have e:p=(s2.heap.objs.size,({ cls:=.type "list", data:=.seq aH.toArray n }:Obj)):=by simpa using (show p∈[]++[_] from hp)
    subst e;exact yb (fl b hb)
  refine sE (λn s'=>∃ i τ acc aH k H',Inv Y [(s2.heap.objs.size,({ cls:=.type "list", data:=.seq aH.toArray k }:Obj))] τ H' s'/\tn i s'.heap/\(∀ b∈fp,H' b=none)/\Vals acc aH/\W i n τ acc H') ?_ m0
   ⟨0,_,[],[],0,H2,I4,u9,λb hb=>(f2 b hb).1,.nil,w0⟩
  rintro n s5 ⟨i,τ,acc,aH,k,H5,I5,gF,YJ,Vl,w5⟩;rcases turn i n τ acc H5 w5 with ⟨stop,hz,q⟩ | ⟨go,hz,step⟩
  ·refine bG (T.done Y rfl rfl rfl hc i _ s5 τ H5 (λ_ _=>False) I5 (ny YJ) gF stop) λr s6 ⟨hr,I6⟩=>?_;subst hr;obtain ⟨eD,nD,_,_,_⟩:=I6.pin _ (zQ _ (zJ.mpr rfl));obtain ⟨m6,hm6,_⟩:=I6.loc;refine ⟨m6,hm6,λh' Yu=>?_⟩;have hC6:H5 G.objs.size=none:=I6.free;have eD':h'.get? s2.heap.objs.size=some { cls:=.type "list", data:=.seq aH.toArray k }:=Yu.extBut _ _ V9 eD;have Yv:ic X.prog X.w H5 h':=λb u e=>(I6.bF b u e).dX (λc v hcv qv=>Yu.extBut c v (by
     rcases hcv with z | z
     ·subst z;exact wC e hC6
     ·exact wC z hC6) qv) (λ_ q=>q) λ_ _ q=>q
   refine ⟨.ref s2.heap.objs.size,_,?_,rfl,q _ nD⟩;have ub:=I6.base;refine I2.Xa (ch:=fp) (s':={ s6 with heap:=h' }) I6.os ⟨λb o e n' hb hx=>Yu.extBut b o (below b (Heap.lt_size e)) (ub.keep b o e n' hb hx),λb o e n' hb hx=>?_,λb o e n' hx=>?_,λb o e hx=>?_,λb xs e=>?_,λb o u e=>?_,λb ps e=>?_⟩
    (Yv.Ww nD ⟨hz,aH,k,Vl,eD'⟩) I6.bare λb hb=>⟨(f2 b hb).2.2.2.1,(f2 b hb).2.1,(f2 b hb).2.2.2.2.1,(f2 b hb).2.2.2.2.2⟩
   ·obtain ⟨sl,e'⟩:=ub.slot b o e n' hb hx;exact ⟨sl,Yu.extBut b _ (below b (Heap.lt_size e)) e'⟩
   ·rw [wF (zY (Heap.lt_size e))];exact ub.free b o e n' hx
   ·obtain ⟨o',e'⟩:=ub.there b o e hx;exact ⟨o',Yu.extBut b _ (below b (Heap.lt_size e)) e'⟩
   ·have z:=ub.br b xs e;rw [wF (wC z nD)];exact z
   ·have z:=ub.oR b o u e;rw [wF (wC z nD)];exact z
   ·obtain ⟨more,z⟩:=ub.nu b ps e;exact ⟨more,by rw [wF (wC z nD)];exact z⟩
  ·refine bG (T.item Y rfl rfl rfl hc i _ s5 τ H5 (λ_ _=>False) I5 (ny YJ) gF go) λr s6 ⟨u,hr,h6⟩=>?_;subst hr;refine bG h6 λ_ s7 ⟨x,H7,I7,r7,y7,Qu,fr7⟩=>?_;have I7':=I7.pinned (ny fr7) (T.obj _ _ Qu);refine bG (hg s2 H2 fp G.objs.size _ s7 τ H7 x u _ I7' r7 (step x H7 y7)) λ_ s8 ⟨RT,H8,I8,q8⟩=>?_;refine bG (ht s2 H2 fp G.objs.size _ s8 RT H8 _ I8 q8) λok s9 ⟨H9,I9,q9⟩=>?_
   -- Wx oF state behind Wx turn
   have back:∀ {s':Shared}{Zw:St}{H':Hp},Inv Y ([(s2.heap.objs.size,({ cls:=.type "list", data:=.seq aH.toArray k }:Obj))]++kJ fp s7.heap) Zw H' s'->(tn (i + 1) s'.heap/\∀ b∈fp,H' b=none):=λ{s' Zw H'} Ib=>
    ⟨T.keep _ _ _ Qu λb hb o e=>(Ib.pin (b,o) (zQ _ (zQ _ (ql hb e)))).1,λb hb=>by
     obtain ⟨o,e,d⟩:=T.obj _ _ Qu b hb;exact (Ib.pin (b,o) (zQ _ (zQ _ (ql hb e)))).2.1⟩
   cases ok with
   | false=>
    obtain ⟨m',gG,w'⟩:=q9;obtain ⟨sb,fb⟩:=back I9;exact ⟨m',gG,i + 1,RT,acc,aH,k,H9,I9.fz,sb,fb,Vl,w'⟩
   | true=>
    refine bG (he s2 H2 fp G.objs.size _ s9 RT H9 _ I9 q9) λy N4 ⟨yv,Uu,Y5,r10,q10⟩=>?_;obtain ⟨m',gG,w'⟩:=q10;obtain ⟨sb,fb⟩:=back Y5;obtain ⟨eD,nD,X3,nfD,_⟩:=Y5.pin (s2.heap.objs.size,_) (zQ _ (z4 _ (zJ.mpr rfl)));have hl:acc.length=aH.length:=Vl.length;refine call_meets F.slot_list_append ⟨_,eD,rfl⟩ F.entry_list_append (F.args_list_append_2 _ _) (PySem.list_append s2.heap.objs.size aH.toArray k y (by rw [zR];omega)) ⟨eD,?_⟩;have q:=PySem.IsL.update eD (λa:Array Value=>a.push y);have Iu:Inv Y [] RT Uu N4:=Y5.cV λp hp=>nomatch hp;have It:=Iu.turned (t':=N4.toks) (it:=s2.heap.objs.size) (h':=N4.heap.update s2.heap.objs.size (Obj.mapSeq (λa:Array Value=>a.push y))) (λb o hb e=>(Heap.get?_update_other N4.heap _ (Ne.symm hb)).trans e) nD X3 (.inr (zD _))
     (λx c e z=>by
      obtain ⟨v,ob,UB,_⟩:=I2.cell x c (ww e);exact absurd (Heap.lt_size UB) (by rw [z];exact yS _)) (λp hp=>nomatch hp)
    have It':=It.cV (iR:=[(s2.heap.objs.size,({ cls:=.type "list", data:=.seq (aH++[y]).toArray (k + 1) }:Obj))]) λp hp=>by
     have e:p=_:=zJ.mp hp;subst e;exact ⟨by simpa using q,nD,X3,nfD,λv z=>nomatch z⟩
    refine ⟨m',gG,i + 1,RT,acc++[yv],aH++[y],_,Uu,It',T.keep _ _ _ sb λb hb o e=>(Heap.get?_update_other N4.heap _ (yb (fl b hb))).trans e,fb,Vl.append (.cons r10 .nil),w'⟩
 exact codeAny_compStart_list loop (T.self _ 0 s4 _ _ u9 loop)
end
open AutoSeq1 (wpAny_loadPart')
section
variable {prog:Program}{w:World}{A:Around}{E:Value->Shared->Prop}{s:Shared}
theorem XZ {it t:Addr}{i:Nat}{items}{x:Value}{Q:Value->Shared->Prop}(hit:s.heap.IsTupleIter it t i)(ht:s.heap.IsTuple t items)(hx:items[i]?=some x)
  (hQ:∀ h',h'.IsTupleIter it t (i + 1)->Heap.SameBut it s.heap h'->Q x { s with heap:=h' }):wpAny (model prog w) A (Builtin.SmallTypes.nextOf (.ref it)) Q E s:=by
 have ty:=hit.typeIs (s:=s);obtain ⟨o,ho,hc,hd⟩:=hit;obtain ⟨ot,hot,_,n,hdt⟩:=ht;have new:=hQ _ ⟨_,Heap.get?_update_self (Obj.mapFields (·.set! 1 (rawInt (i + 1)))) ho (Obj.isFreed_of_fields (Obj.data_mapFields hd _)),(Obj.cls_mapFields ..).trans hc,by rw [Obj.data_mapFields hd];simp [rawInt]⟩ (Heap.SameBut.update ..);unfold Builtin.SmallTypes.nextOf;refine wpAny_bind (wpAny_callSpecial?_slot ty F.slot_tuple_iterator_next (wpAny_call_entry F.slot_tuple_iterator_next ty F.entry_tuple_iterator_next ?_ (F.args_tuple_iterator_next_1 _)));unfold Builtin.«tuple_iterator.__next__»;wp_walk using wpAny_field ho hd (x:=.ref t) rfl,wpAny_field ho hd (x:=.int i 0) rfl,wpAny_seqItems hot hdt;simp only [zk,hx];wp_walk using wpAny_setField ho hd (by simp);exact ⟨x,rfl,wpAny_pure new⟩
theorem PX {it t:Addr}{i:Nat}{items}{Q:Value->Shared->Prop}(hh:A.handled=none)(hit:s.heap.IsTupleIter it t i)(ht:s.heap.IsTuple t items)(hx:items[i]?=none)
  (hE:∀ h' e,Heap.ExtBut it s.heap h'->(∃ o,h'.get? e=some o/\o.cls=.type "StopIteration")->E (.ref e) { s with heap:=h' }):wpAny (model prog w) A (Builtin.SmallTypes.nextOf (.ref it)) Q E s:=by
 have ty:=hit.typeIs (s:=s);obtain ⟨o,ho,hc,hd⟩:=hit;obtain ⟨ot,hot,_,n,hdt⟩:=ht;have hh1:A.in1.handled=none:=hh;unfold Builtin.SmallTypes.nextOf;refine wpAny_bind (wpAny_callSpecial?_slot ty F.slot_tuple_iterator_next (wpAny_call_entry F.slot_tuple_iterator_next ty F.entry_tuple_iterator_next ?_ (F.args_tuple_iterator_next_1 _)));unfold Builtin.«tuple_iterator.__next__»;wp_walk using wpAny_field ho hd (x:=.ref t) rfl,wpAny_field ho hd (x:=.int i 0) rfl,wpAny_seqItems hot hdt;simp only [zk,hx];wp_walk using wpAny_setField ho hd (by simp);simp only [raiseNew];refine wpAny_bind (wpAny_handled ?_);rw [hh1];exact wpAny_bind (wpAny_pure (wpAny_throw (hE _ _ (((Heap.SameBut.update ..).extBut.push _).push _) ⟨_,Heap.get?_push_size _ rfl,rfl⟩)))
end
theorem YO {prog:Program}{w:World}{A:Around}(hh:A.handled=none)(it t:Addr)(ve:t≠it)(items:Array Value) :
  Draws prog w A it [it,t] items.size (λi v=>items[i]?=some v) (λi h=>h.IsTupleIter it t i/\h.IsTuple t items) where
 live:=λ_ _ st=>let ⟨⟨o,ho,_⟩,_⟩:=st;⟨o,ho⟩
 frame:=λ_ _ _ st hk=>let ⟨⟨o,ho,r⟩,o',rj,r'⟩:=st;⟨⟨o,hk it (by simp) o ho,r⟩,o',hk t (by simp) o' rj,r'⟩
 item:=λi s Q E hi st hQ=>XZ st.1 st.2 (Array.getElem?_eq_getElem hi) λh' a b=>hQ _ h' s.toks (Array.getElem?_eq_getElem hi) ⟨a,st.2.extBut b.extBut ve⟩ b
 done:=λs Q E st hE=>PX hh st.1 st.2 (Array.getElem?_eq_none (zD _)) hE
theorem YQ {prog:Program}{w:World}{A:Around}(hh:A.handled=none)(it t:Addr)(items:Array Value) :
  Draws prog w A it [it,t] 0 (λ_ _=>False) (λ_ h=>∃ j,h.IsTupleIter it t j/\h.IsTuple t items/\items[j]?=none) where
 live:=λ_ _ st=>let ⟨_,⟨o,ho,_⟩,_⟩:=st;⟨o,ho⟩
 frame:=λ_ _ _ st hk=>let ⟨j,⟨o,ho,r⟩,⟨o',rj,r'⟩,z⟩:=st;⟨j,⟨o,hk it (by simp) o ho,r⟩,⟨o',hk t (by simp) o' rj,r'⟩,z⟩
 item:=λi s Q E hi _ _=>absurd hi (yB _)
 done:=λs Q E st hE=>let ⟨_,a,b,c⟩:=st;PX hh a b c hE
section
variable {prog:Program}{w:World}{A:Around}{E:Value->Shared->Prop}{s:Shared}
theorem Ru (l:Addr)(items:Array Value)(o:Obj) :
  Meets (Builtin.«enumerate.__new__» ⟨[.type "enumerate", .ref l],[]⟩) (λ_ R s=>(s.heap.get? l=some o/\s.heap.IsTuple l items) /\
   R (.ok (.ret (.ref (s.heap.push { cls:=.type "tuple_iterator", data:=.fields #[.ref l,.int 0 0] }).objs.size)))
    { s with heap:=(s.heap.push { cls:=.type "tuple_iterator", data:=.fields #[.ref l,.int 0 0] }).push { cls:=.type "enumerate", data:=.fields #[.none,.bool false,.ref s.heap.objs.size,rawInt 0,.none,.none] } }):=
 .of_wp λprog w A R s ⟨⟨hl,hL⟩,h⟩=>by
  obtain ⟨hp,g,d,tk,os⟩:=s;have ahz:=sub_enumerate;wp_walk using wpAny_loadPart' hl;refine wpAny_stack_any λst=>wpAny_pure ?_;split
  ·rename_i c _ _ _ _ _;cases (c == Value.type "enumerate") <;> (wp_walk using wpAny_loadPart' hl,wpAny_pyIter_tuple hL) <;> exact ⟨_,rfl,h⟩
  ·wp_walk using wpAny_loadPart' hl,wpAny_pyIter_tuple hL;exact ⟨_,rfl,h⟩
theorem O5 {l:Addr}{items:Array Value}{Q:Value->Shared->Prop}(hL:s.heap.IsTuple l items)
  (h:∀ h',IsEnum h' (s.heap.objs.size + 1) s.heap.objs.size 0 .none->h'.IsTupleIter s.heap.objs.size l 0 ->
   (∀ b o,s.heap.get? b=some o->h'.get? b=some o)->Q (.ref (s.heap.objs.size + 1)) { s with heap:=h' }) :
  wpAny (model prog w) A (call (.type "enumerate") [.ref l]) Q E s:=by
 obtain ⟨o,hl,_⟩:=id hL;refine callType_new F.called_enumerate (by decide) (F.typeCall_enumerate_1 _) (F.newCall_enumerate_1 _) (λobj=>F.args_object_init_2 obj _) F.entry_enumerate_new (Ru l items o) ⟨⟨hl,hL⟩,?_⟩;generalize hG:s.heap.push { cls:=.type "tuple_iterator", data:=.fields #[.ref l,.int 0 0] }=G;have hz:G.objs.size=s.heap.objs.size + 1:=by rw [<-hG,Heap.size_push]
 have hi:G.get? s.heap.objs.size=some { cls:=.type "tuple_iterator", data:=.fields #[.ref l,.int 0 0] }:=by rw [<-hG];exact Heap.get?_push_size _ rfl
 have he:=Heap.get?_push_size G (o:={ cls:=.type "enumerate", data:=.fields #[.none,.bool false,.ref s.heap.objs.size,rawInt 0,.none,.none] }) rfl;rw [hz] at he;show _/\_;rw [hz];exact ⟨⟨_,he,rfl⟩,h _ he ⟨_,Heap.get?_push_of_some _ hi,rfl,rfl⟩ λb o x=>Heap.get?_push_of_some _ (by rw [<-hG];exact Heap.get?_push_of_some _ x)⟩
end
noncomputable def u6 (K:PySem.W.Frag)(a:Addr):It:=
 ⟨λi H=>∃ xs x,bS K H a xs/\xs[i]?=some x,λi H y H'=>∃ p x,H p=none/\y=.ref p/\H'=upd H p (.tup [.int i,x])/\∀ xs,bS K H a xs->xs[i]?=some x,λi H=>∃ xs,bS K H a xs/\xs.length<=i⟩
theorem Oc {P:Program}{w:World}{K:PySem.W.Frag}{es:List Expr}{k:Nat}{pos:Pos}(a e it:Addr)(ve:e≠it) :
  Turn P w K (.Tuple es k pos) (u6 K a) [e,it] e (λi h=>(∃ old,IsEnum h e it i old)/\h.IsTupleIter it a i) where
 mem:=by simp
 obj:=λi h st b hb=>by
  obtain ⟨⟨old,he⟩,o,hi,c,d⟩:=st;rcases zH.mp hb with z | z
  ·subst z;exact ⟨_,he,λv q=>nomatch q⟩
  ·have z':b=it:=by simpa using z
   subst z';exact ⟨o,hi,λv q=>by rw [d] at q;cases q⟩
 keep:=λi h h' st q=>by
  obtain ⟨⟨old,he⟩,o,hi,r⟩:=st;exact ⟨⟨old,q e (by simp) _ he⟩,o,q it (by simp) o hi,r⟩
 item:=by
  intro X hP hw hK hc i af s σ H E I hf st hg;subst hP hw hK;obtain ⟨xs,x,hq,hx⟩:=hg;obtain ⟨aH,rv,p,hz⟩:=I.tuple hq;obtain ⟨u,hu,ru⟩:=rv.get hx;obtain ⟨⟨old,he⟩,hi⟩:=st;obtain ⟨e0,e1,e2,e3,e4,e5⟩:=hf e (by simp);obtain ⟨f0,f1,f2,f3,f4,f5⟩:=hf it (by simp);have el:e < s.heap.objs.size:=Heap.lt_size he;have il:it < s.heap.objs.size:=let ⟨_,z,_⟩:=hi;Heap.lt_size z;have ht:s.heap.IsTuple a aH.toArray:=p;have hal:a < s.heap.objs.size:=let ⟨_,z,_⟩:=ht;Heap.lt_size z;have hai:a≠it:=λz=>by
   obtain ⟨o1,z1,c1,_⟩:=ht;obtain ⟨o2,z2,c2,_⟩:=hi;rw [z,z2] at z1;cases z1;rw [c2] at c1;exact absurd (Value.type.inj c1) (by decide)
  have hae:e ∉ [it,a]:=λz=>by
   rcases zH.mp z with z | z
   ·exact ve z
   ·have z':e=a:=by simpa using z
    obtain ⟨o1,z1,c1,_⟩:=ht;rw [<-z',he] at z1;cases z1;exact absurd (Value.type.inj c1) (by decide)
  refine wpAny_pyNext_enum_itemD (YO (A:=X.A.in1) (I.ok.hd hc) it a hai aH.toArray) he ⟨hi,ht⟩ (by simpa using (zC.mp hu).1) ve hae λu1 h1 tk hu1 ho ac6 hT hsz hk=>?_;have eu:u=u1:=by
   have q:aH.toArray[i]?=some u:=by simpa using hu
   have aar:aH.toArray[i]?=some u1:=hu1;rw [q] at aar;exact Option.some.inj aar
  subst eu;have hi1:=ac6.1;refine ⟨_,rfl,?_⟩;refine wpAny_letOwnedTupleGo_enum ho λh2 he2 N5=>?_;have OR:Heap.SameBut e h1 h2:=N5;have nX:∀ b o,b≠e->b≠it->s.heap.get? b=some o->h2.get? b=some o:=λb o hb dZ q=>OR.extBut b o hb (hk b o hb dZ q);have hT2:h2.get? s.heap.objs.size=some { cls:=.type "tuple", data:=.seq #[.int i tk,u] }:=OR.extBut _ _ (yb el) hT;have nT:H s.heap.objs.size=none:=I.bF.fresh (zD _);refine ⟨.ref s.heap.objs.size,upd H s.heap.objs.size (.tup [.int i,x]),?_,rfl,⟨_,x,nT,rfl,rfl,λys hy=>by rw [I.rR hy hq];exact hx⟩,⟨⟨u,by simpa using he2⟩,?_⟩,λb hb=>?_⟩
  ·have uq:∀ b,b ∉ [e,it]->b≠e/\b≠it:=λb hb=>⟨λz=>hb (by simp [z]),λz=>hb (by simp [z])⟩;refine Inv.step (s:=s) (h':=h2) (g':=s.gens) (d':=s.drawn) (t':=tk + 1) (ch:=[e,it]) I (λb hb=>?_) (λb o _ _ hb q _=>nX b o (uq b hb).1 (uq b hb).2 q) (λb o _ _ hb q _=>⟨o.slots,nX b o (uq b hb).1 (uq b hb).2 q⟩)
    (λb o _ q n=>by rw [wF (zY (Heap.lt_size q))];exact n) (λb o hb q=>⟨o,nX b o (uq b hb).1 (uq b hb).2 q⟩)
    (λb ys q=>by rw [wF (wC q nT)];exact q) (λb o v q=>by rw [wF (wC q nT)];exact q) (λb ps q=>⟨#[],by rw [wF (wC q nT),q];simp⟩)
    (λm hm=>by
     obtain ⟨o,es',ep,q,r⟩:=hm;exact ⟨o,es',ep,nX _ o (Ne.symm e1) (Ne.symm f1) q,r⟩) (λb v q=>?_) I.bare
   ·rcases zH.mp hb with z | z
    ·subst z;exact ⟨e3,e1,e4,e5⟩
    ·have z':b=it:=by simpa using z
     subst z';exact ⟨f3,f1,f4,f5⟩
   ·by_cases hb:b=s.heap.objs.size
    ·subst hb;rw [xq] at q;cases q;exact ⟨⟨by show 2<=sizeLine;rw [sizeLine_eq];decide,λob e=>by rw [hT2] at e;cases e;rfl⟩,[.int i tk,u],.cons ⟨_,rfl⟩ (.cons ru .nil),⟨_,hT2,rfl,_,rfl⟩⟩
    ·rw [wF hb] at q;refine (I.bF b v q).dX (λc ob hc qc=>nX c ob ?_ ?_ qc) (λc qc=>by rw [wF (wC qc nT)];exact qc) λc ys qc=>by rw [wF (wC qc nT)];exact qc
     ·rcases hc with z | z
      ·subst z;exact wC q e0
      ·exact wC z e0
     ·rcases hc with z | z
      ·subst z;exact wC q f0
      ·exact wC z f0
  ·obtain ⟨o,q,r⟩:=hi1;exact ⟨o,OR.extBut it o (Ne.symm ve) q,r⟩
  ·rcases zH.mp hb with z | z
   ·subst z;rw [wF (zY el)];exact e0
   ·have z':b=it:=by simpa using z
    subst z';rw [wF (zY il)];exact f0
 done:=by
  intro X hP hw hK hc i af s σ H E I hf st hg;subst hP hw hK;obtain ⟨xs,hq,hx⟩:=hg;obtain ⟨aH,rv,p,hz⟩:=I.tuple hq;obtain ⟨⟨old,he⟩,hi⟩:=st;obtain ⟨f0,f1,f2,f3,f4,f5⟩:=hf it (by simp);have hl:=rv.length;have ht:s.heap.IsTuple a aH.toArray:=p;have hai:a≠it:=λz=>by
   obtain ⟨o1,z1,c1,_⟩:=ht;obtain ⟨o2,z2,c2,_⟩:=hi;rw [z,z2] at z1;cases z1;rw [c2] at c1;exact absurd (Value.type.inj c1) (by decide)
  exact wpAny_pyNext_enum_endD (YQ (A:=X.A.in1) (I.ok.hd hc) it a aH.toArray) he ⟨i,hi,ht,by simp;omega⟩ λh' eb=>⟨rfl,I.turned (t':=s.toks) (λb o hb e=>eb b o hb e) f0 f1 f3 f4 f5⟩
 self:=λ_ _ _ _ _ st h=>let ⟨⟨_,he⟩,_⟩:=st;wpAny_pyIter_enum he h
noncomputable def Yp (K:PySem.W.Frag)(ta:TA):TI:=fun σ H R=>ta σ H λvs H1=>∃ a,vs=[.ref a]/\(∃ xs,bS K H1 a xs)/\R (u6 K a) H1
theorem nR {X:Cx}{a:Expr}{ta:TA}{p pos XM:Pos}{es:List Expr}{k:Nat}{K:PySem.W.Frag}(hK:X.K=K)(hg:Gl X "enumerate")(hm:X.mg "enumerate" = none)(ha:PA X [a] ta)(hs:starEach [a] X.env=[(false,eval a X.env)]:=by rfl) :
  PI X (.Tuple es k XM) (.Call (.Name "enumerate" p) [a] [] pos) (Yp K ta):=by
 subst hK;intro af s σ H R I h;refine Call_ (fY I hg hm boot_enumerate (yf (bG (ha pos af s σ H _ I h) λus s1 ⟨vs,H1,I1,r1,q1⟩=>?_) hs rfl));obtain ⟨l,e,⟨xs,hq⟩,q⟩:=q1;subst e;cases r1 with
 | cons r rr=>
  cases rr;cases r;obtain ⟨aH,rv,p,hz⟩:=I1.tuple hq;refine O5 (show s1.heap.IsTuple l aH.toArray from p) λh' he hi hk=>?_;refine wpAny_pyIter_enum he ?_;have I2:Inv X af σ H1 { s1 with heap:=h' }:=I1.kept (t':=s1.toks) hk;refine ⟨s1.heap.objs.size + 1,[s1.heap.objs.size + 1,s1.heap.objs.size],_,_,H1,rfl,I2,Oc l _ _ (Nat.succ_ne_self _),⟨⟨_,he⟩,hi⟩,λb hb=>?_,q⟩;have dZ:s1.heap.objs.size<=b:=by
   rcases zH.mp hb with z | z
   ·subst z;exact xP _
   ·have z':b=s1.heap.objs.size:=by simpa using z
    subst z';exact zD _
  exact I1.Rm dZ (I1.bF.fresh dZ)
noncomputable def u7 (K:PySem.W.Frag)(a:Addr):It:=
 ⟨λi H=>∃ xs x,aU K H a xs/\xs[i]?=some x,λi H y H'=>∃ p x,H p=none/\y=.ref p/\H'=upd H p (.tup [.int i,x])/\∀ xs,aU K H a xs->xs[i]?=some x,λi H=>∃ xs,aU K H a xs/\xs.length<=i⟩
theorem Od {P:Program}{w:World}{K:PySem.W.Frag}{es:List Expr}{k:Nat}{pos:Pos}(a e it:Addr)(ve:e≠it) :
  Turn P w K (.Tuple es k pos) (u7 K a) [e,it] e (λi h=>(∃ old,IsEnum h e it i old)/\h.IsListIter it a i) where
 mem:=by simp
 obj:=λi h st b hb=>by
  obtain ⟨⟨old,he⟩,o,hi,c,d⟩:=st;rcases zH.mp hb with z | z
  ·subst z;exact ⟨_,he,λv q=>nomatch q⟩
  ·have z':b=it:=by simpa using z
   subst z';exact ⟨o,hi,λv q=>by rw [d] at q;cases q⟩
 keep:=λi h h' st q=>by
  obtain ⟨⟨old,he⟩,o,hi,r⟩:=st;exact ⟨⟨old,q e (by simp) _ he⟩,o,q it (by simp) o hi,r⟩
 item:=by
  intro X hP hw hK hc i af s σ H E I hf st hg;subst hP hw hK;obtain ⟨xs,x,hq,hx⟩:=hg;obtain ⟨aH,rv,p,hz⟩:=I.list hq;obtain ⟨u,hu,ru⟩:=rv.get hx;obtain ⟨⟨old,he⟩,hi⟩:=st;obtain ⟨e0,e1,e2,e3,e4,e5⟩:=hf e (by simp);obtain ⟨f0,f1,f2,f3,f4,f5⟩:=hf it (by simp);have el:e < s.heap.objs.size:=Heap.lt_size he;have il:it < s.heap.objs.size:=let ⟨_,z,_⟩:=hi;Heap.lt_size z;refine wpAny_pyNext_enum_item he hi p.isList (x:=u) (by simpa using hu) ve λh1 ho hi1 hT hsz hk=>?_;obtain ⟨tk,htk⟩:∃ tk,tk=s.toks:=⟨_,rfl⟩;rw [<-htk] at hT ⊢;refine ⟨_,rfl,?_⟩;refine wpAny_letOwnedTupleGo_enum ho λh2 he2 N5=>?_;have OR:Heap.SameBut e h1 h2:=N5;have nX:∀ b o,b≠e->b≠it->s.heap.get? b=some o->h2.get? b=some o:=λb o hb dZ q=>OR.extBut b o hb (hk b o hb dZ q);have hT2:h2.get? s.heap.objs.size=some { cls:=.type "tuple", data:=.seq #[.int i tk,u] }:=OR.extBut _ _ (yb el) hT;have nT:H s.heap.objs.size=none:=I.bF.fresh (zD _);refine ⟨.ref s.heap.objs.size,upd H s.heap.objs.size (.tup [.int i,x]),?_,rfl,⟨_,x,nT,rfl,rfl,λys hy=>by rw [I.Na hy hq];exact hx⟩,⟨⟨u,by simpa using he2⟩,?_⟩,λb hb=>?_⟩
  ·have uq:∀ b,b ∉ [e,it]->b≠e/\b≠it:=λb hb=>⟨λz=>hb (by simp [z]),λz=>hb (by simp [z])⟩;refine Inv.step (s:=s) (h':=h2) (g':=s.gens) (d':=s.drawn) (t':=tk + 1) (ch:=[e,it]) I (λb hb=>?_) (λb o _ _ hb q _=>nX b o (uq b hb).1 (uq b hb).2 q) (λb o _ _ hb q _=>⟨o.slots,nX b o (uq b hb).1 (uq b hb).2 q⟩)
    (λb o _ q n=>by rw [wF (zY (Heap.lt_size q))];exact n) (λb o hb q=>⟨o,nX b o (uq b hb).1 (uq b hb).2 q⟩)
    (λb ys q=>by rw [wF (wC q nT)];exact q) (λb o v q=>by rw [wF (wC q nT)];exact q) (λb ps q=>⟨#[],by rw [wF (wC q nT),q];simp⟩)
    (λm hm=>by
     obtain ⟨o,es',ep,q,r⟩:=hm;exact ⟨o,es',ep,nX _ o (Ne.symm e1) (Ne.symm f1) q,r⟩) (λb v q=>?_) I.bare
   ·rcases zH.mp hb with z | z
    ·subst z;exact ⟨e3,e1,e4,e5⟩
    ·have z':b=it:=by simpa using z
     subst z';exact ⟨f3,f1,f4,f5⟩
   ·by_cases hb:b=s.heap.objs.size
    ·subst hb;rw [xq] at q;cases q;exact ⟨⟨by show 2<=sizeLine;rw [sizeLine_eq];decide,λob e=>by rw [hT2] at e;cases e;rfl⟩,[.int i tk,u],.cons ⟨_,rfl⟩ (.cons ru .nil),⟨_,hT2,rfl,_,rfl⟩⟩
    ·rw [wF hb] at q;refine (I.bF b v q).dX (λc ob hc qc=>nX c ob ?_ ?_ qc) (λc qc=>by rw [wF (wC qc nT)];exact qc) λc ys qc=>by rw [wF (wC qc nT)];exact qc
     ·rcases hc with z | z
      ·subst z;exact wC q e0
      ·exact wC z e0
     ·rcases hc with z | z
      ·subst z;exact wC q f0
      ·exact wC z f0
  ·obtain ⟨o,q,r⟩:=hi1;exact ⟨o,OR.extBut it o (Ne.symm ve) q,r⟩
  ·rcases zH.mp hb with z | z
   ·subst z;rw [wF (zY el)];exact e0
   ·have z':b=it:=by simpa using z
    subst z';rw [wF (zY il)];exact f0
 done:=by
  intro X hP hw hK hc i af s σ H E I hf st hg;subst hP hw hK;obtain ⟨xs,hq,hx⟩:=hg;obtain ⟨aH,rv,p,hz⟩:=I.list hq;obtain ⟨⟨old,he⟩,hi⟩:=st;obtain ⟨f0,f1,f2,f3,f4,f5⟩:=hf it (by simp);have hl:=rv.length;exact wpAny_pyNext_enum_end (I.ok.hd hc) he hi p.isList (by simp;omega) λh' eb=>⟨rfl,I.turned (t':=s.toks) (λb o hb e=>eb b o hb e) f0 f1 f3 f4 f5⟩
 self:=λ_ _ _ _ _ st h=>let ⟨⟨_,he⟩,_⟩:=st;wpAny_pyIter_enum he h
noncomputable def Yq (K:PySem.W.Frag)(ta:TA):TI:=fun σ H R=>ta σ H λvs H1=>∃ a,vs=[.ref a]/\(∃ xs,aU K H1 a xs)/\R (u7 K a) H1
theorem vK {X:Cx}{a:Expr}{ta:TA}{p pos XM:Pos}{es:List Expr}{k:Nat}{K:PySem.W.Frag}(hK:X.K=K)(hg:Gl X "enumerate")(hm:X.mg "enumerate" = none)(ha:PA X [a] ta)(hs:starEach [a] X.env=[(false,eval a X.env)]:=by rfl) :
  PI X (.Tuple es k XM) (.Call (.Name "enumerate" p) [a] [] pos) (Yq K ta):=by
 subst hK;intro af s σ H R I h;refine Call_ (fY I hg hm boot_enumerate (yf (bG (ha pos af s σ H _ I h) λus s1 ⟨vs,H1,I1,r1,q1⟩=>?_) hs rfl));obtain ⟨l,e,⟨xs,hq⟩,q⟩:=q1;subst e;cases r1 with
 | cons r rr=>
  cases rr;cases r;obtain ⟨aH,rv,p,hz⟩:=I1.list hq;refine call_enumerate_list p.isList λh' he hi hsz hk=>?_;refine wpAny_pyIter_enum he ?_;have I2:Inv X af σ H1 { s1 with heap:=h' }:=I1.kept (t':=s1.toks) hk;refine ⟨s1.heap.objs.size + 1,[s1.heap.objs.size + 1,s1.heap.objs.size],_,_,H1,rfl,I2,Od l _ _ (Nat.succ_ne_self _),⟨⟨_,he⟩,hi⟩,λb hb=>?_,q⟩;have dZ:s1.heap.objs.size<=b:=by
   rcases zH.mp hb with z | z
   ·subst z;exact xP _
   ·have z':b=s1.heap.objs.size:=by simpa using z
    subst z';exact zD _
  exact I1.Rm dZ (I1.bF.fresh dZ)
noncomputable def pT (H:Hp):V->Option String
 | .bL=>some "NoneType"
 | .bl _=>some "bool"
 | .int _=>some "int"
 | .str _=>some "str"
 | .ref a=>match H a with
  | some (.lst _)=>some "list"
  | some (.uF _ (.lst _))=>some "list"
  | some (.tup _)=>some "tuple"
  | some (.dK _)=>some "dict"
  | _=>none
 | _=>none
theorem Xm {K:PySem.W.Frag}{H:Hp}{x:V}{t:String}(h:pT H x=some t):lB K H x (.type t):=by
 cases x with
 | bL=>cases h;exact .bL
 | bl b=>cases h;exact .bl b
 | int i=>cases h;exact .int i
 | str x=>cases h;exact .str x
 | ref a=>
  unfold pT at h;dsimp only at h;split at h
  ·rename_i e;cases h;exact .lst e
  ·rename_i e;cases h;exact .uF e
  ·rename_i e;cases h;exact .tup e
  ·rename_i e;cases h;exact .dK e
  ·cases h
 | _=>cases h
theorem tL {H:Hp}{x:V}{t:String}(h:pT H x=some t):t = "NoneType" \/ t = "bool" \/ t = "int" \/ t = "str" \/ t = "list" \/ t = "tuple" \/ t = "dict" := by
 cases x with
 | ref a=>
  unfold pT at h;dsimp only at h;split at h <;> cases h <;> simp
 | _=>cases h <;> simp
def WK (t T:String):Bool:=t == T || (t == "bool" && T == "int")
theorem Ye {K:PySem.W.Frag}{t T:String}(h:t = "NoneType" \/ t = "bool" \/ t = "int" \/ t = "str" \/ t = "list" \/ t = "tuple" \/ t = "dict")(hT:T = "int" \/ T = "bool" \/ T = "list" \/ T = "tuple"):PySem.W.kitOne K (.type t) (.type T)=some (WK t T):=by rcases h with rfl | rfl | rfl | rfl | rfl | rfl | rfl <;> rcases hT with rfl | rfl | rfl | rfl <;> first | rfl | decide +kernel
section
variable {X:Cx}
theorem qm:dm X (.builtin "isinstance") (λxs H Q=>∃ x t T,xs=[x,.ty T]/\pT H x=some t/\(T = "int" \/ T = "bool" \/ T = "list" \/ T = "tuple")/\Q (.bl (WK t T)) H):=by intro af s σ H xs us Q I r h;obtain ⟨x,t,T,rfl,ht,hT,q⟩:=h;obtain ⟨u,w',rfl,r1,r2⟩:=vals2 r;cases r2;exact Ra I r1 (Xm ht) (Ye (tL ht) hT) λtk=>⟨.bl _,H,I.tok tk,rfl,q⟩
theorem qr:gI X (binaryOp .FloorDiv) (rI (λ_ j=>0 < j/\j < 2 ^ 200) λi j=>.int (i / j)):=opI λi j _ _ _ _ _ hc q=>by
 have e:i.fdiv j=i / j:=Int.fdiv_eq_ediv_of_nonneg _ (by omega);rw [<-e] at q;refine floordiv_int (by omega) q (.inl (PyProof.noPylong_of_log2 ?_));have h0:j.natAbs≠0:=by omega
 have h1:j.natAbs < 2 ^ 200:=by omega
 have:=(Nat.log2_lt h0).mpr h1;omega
theorem S0 (hu:X.A.units + 64 < cLine):gI X (compareOp .NotEq) (λx y H Q=>∃ a b xs,x=.ref a/\y=.ref b/\aU X.K H a xs/\aU X.K H b []/\Q (.bl (!xs.isEmpty)) H):=by
 intro af s σ H x y v u Q I rx ry h;obtain ⟨a,b,xs,rfl,rfl,ha,hb,q⟩:=h;cases rx;cases ry;obtain ⟨aH,r,p,_⟩:=I.list ha;obtain ⟨dO,r2,p2,_⟩:=I.list hb;cases r2;cases r with
 | nil=>exact SeqAt.RcNeAt.lists (e:=λ_=>true) p.isList p2.isList rfl (by omega) (λj h1=>absurd h1 (yB _)) _ _ _ _ ⟨.bl _,H,I,rfl,q⟩
 | cons r1 rr=>exact SeqAt.RcNeAt.lists_lengths p.isList p2.isList (by simp) (by omega) _ _ _ _ ⟨.bl _,H,I,rfl,q⟩
theorem QK (hu:X.A.units + 64 < cLine):gI X (compareOp .Eq) (λx y H Q=>∃ a b xs,x=.ref a/\y=.ref b/\bS X.K H a xs/\bS X.K H b []/\Q (.bl xs.isEmpty) H):=by
 intro af s σ H x y v u Q I rx ry h;obtain ⟨a,b,xs,rfl,rfl,ha,hb,q⟩:=h;cases rx;cases ry;obtain ⟨aH,r,p,_⟩:=I.tuple ha;obtain ⟨dO,r2,p2,_⟩:=I.tuple hb;cases r2;have q':Q (.bl ((List.range (min aH.toArray.size ([]:List Value).toArray.size)).all (λ_=>true) && aH.toArray.size == ([]:List Value).toArray.size)) H:=by
  cases r with
  | nil=>simpa using q
  | cons r1 rr=>simpa using q
 exact SeqAt.RcAt.tuples (e:=λ_=>true) p p2 (by omega) (λj h1 h2=>absurd h2 (yB _)) _ _ _ _ ⟨.bl _,H,I,rfl,q'⟩
variable {K:PySem.W.Frag}
theorem wX {es:List Expr}{k:Nat}{t:UL}{n:Nat}{pos:Pos}(hK:X.K=K)(hc:X.calm=true)(h:Zv X es t)
  (hn:(assignEach es X.env).length=n:=by rfl) (VU:(assignEach es X.env).findIdx? (·.1)=none:=by rfl):PG X (.Tuple es k pos) (rA K n t):=by subst hK;exact XO hc h hn VU
theorem wn {tg l:Expr}{tl:TE}(hK:X.K=K)(hl:PE X l tl):PI X tg l (WM K tl):=by subst hK;exact Vw hl
theorem fF {tg l:Expr}{tl:TE}(hK:X.K=K)(hl:PE X l tl):PI X tg l (aal K tl):=by subst hK;exact XN hl
theorem wS (hK:X.K=K):IxR X (p7 K):=by subst hK;exact VQ
theorem wT (hK:X.K=K):IxR X (p5 K):=by subst hK;exact Yk
theorem vC (hK:X.K=K):SlR X (ZZ K):=by subst hK;exact Vg
theorem ja (hK:X.K=K):gI X (compareOp .In) (rIn K false):=by subst hK;exact QJ
theorem wR (hK:X.K=K):dm X (.builtin "len") (λxs H Q=>∃ p ys,xs=[.ref p]/\(aU K H p ys\/bS K H p ys)/\Q (.int ys.length) H):=by subst hK;exact uR
theorem ff (hK:X.K=K):dm X (.type "list") (λxs H Q=>∃ p ys,xs=[.ref p]/\(aU K H p ys\/bS K H p ys)/\∀ l,H l=none->Q (.ref l) (upd H l (.lst ys))):=by subst hK;exact uQ
end
theorem oO {X:Cx}{K:PySem.W.Frag}(hK:X.K=K):abc X (λo i H Q=>∃ p xs v,∃ k:Nat,o=.ref p/\i=.int k/\aU K H p xs/\xs[k]?=some v/\Q v H):=by subst hK;intro af s σ H o i ov iv Q I ro ri h;obtain ⟨p,xs,v,k,rfl,rfl,hq,hv,q⟩:=h;cases ro;obtain ⟨t,rfl⟩:=ri;obtain ⟨aH,r,pl,hz⟩:=I.list hq;obtain ⟨w,ew,rT⟩:=r.get hv;have hk:k < xs.length:=(zC.mp hv).1;have hn:=om;exact wpAny_getItem_list pl.isList (by omega) (by omega) (by simpa using ew) ⟨v,H,I,rT,q⟩
end L2
namespace bh
open PySem PySem.W PyProof.Rows
noncomputable def gE {α:Type}(n:Nat)(c:Nat->Nat->Bool):KasT α->(α->Prop)->Prop
 | .ret a,P=>P a
 | .ask i j k,P=>i < n/\j < n/\gE n c (k (c i j)) P
theorem gE.bind {α β:Type}{n:Nat}{c:Nat->Nat->Bool}{f:α->KasT β}{P:β->Prop}:∀ (t:KasT α),gE n c t (λa=>gE n c (f a) P)->gE n c (t.bind f) P
 | .ret a,h=>h
 | .ask i j k,h=>⟨h.1,h.2.1,gE.bind (k (c i j)) h.2.2⟩
theorem gE.mono {α:Type}{n:Nat}{c:Nat->Nat->Bool}{P P':α->Prop}(hp:∀ a,P a->P' a):∀ (t:KasT α),gE n c t P->gE n c t P'
 | .ret a,h=>hp a h
 | .ask i j k,h=>⟨h.1,h.2.1,gE.mono hp (k (c i j)) h.2.2⟩
theorem gE.wp {α:Type}{n:Nat}{c:Nat->Nat->Bool}{P:α->Prop}{Q:α->Shared->Prop}{cmp:Nat->Nat->(Bool->Shared->Prop)->Shared->Prop}{s:Shared}
  (hc:∀ i j C,i < n->j < n->C (c i j) s->cmp i j C s) (hq:∀ a,P a->Q a s):∀ (t:KasT α),gE n c t P->t.kasWp cmp Q s
 | .ret a,h=>hq a h
 | .ask i j k,h=>hc i j _ h.1 h.2.1 (gE.wp hc hq (k (c i j)) h.2.2)
section
variable {n:Nat}{f:Nat->Int}
def at' (p:Array Nat)(i:Nat):Nat:=(p[i]?).getD 0
theorem qK (p:Array Nat)(i:Nat):p.getD i 0=at' p i:=by unfold at';simp
def g (f:Nat->Int)(p:Array Nat)(i:Nat):Int:=f (at' p i)
def Pm (n:Nat)(p:Array Nat):Prop:=p.Perm (List.toArray (List.range n))
theorem Pm.size {p:Array Nat}(h:Pm n p):p.size=n:=by rw [Array.Perm.size_eq h];simp
theorem Pm.lt {p:Array Nat}(h:Pm n p){i:Nat}(hi:i < n):at' p i < n:=by
 have hs:=h.size;have e:at' p i=p[i]'(by omega):=by unfold at';simp [hs,hi]
 have hm:p[i]'(by omega)∈p:=Array.getElem_mem _;have gG:=(Array.Perm.mem_iff h).mp hm;rw [e];simpa using gG
theorem Pm.rev {p:Array Nat}(h:Pm n p)(i j:Nat):Pm n (kas_rev p i j):=(mirror_perm p i j _).trans h
theorem Pm.bub {p:Array Nat}(h:Pm n p)(k d:Nat):Pm n (bubble p k d):=(bubble_perm p k d).trans h
theorem Qa {p:Array Nat}{i j:Nat}(hj:j<=p.size)(k:Nat):g f (kas_rev p i j) k=if i<=k/\k < j then g f p (i + j - 1 - k) else g f p k:=by unfold g at' kas_rev;rw [getElem?_mirror_all hj k];split <;> rfl
theorem WU {p:Array Nat}{src d:Nat}(hs:src < p.size)(hd:d<=src)(k:Nat):g f (bubble p src d) k=if k=src - d then g f p src else if src - d < k/\k<=src then g f p (k - 1) else g f p k:=by
 unfold g at';rw [getElem?_bubble hs d hd k];split
 ·rfl
 ·split <;> rfl
noncomputable def Up (f:Nat->Int)(p:Array Nat)(k:Nat):Prop:=∀ i j,i<=j->j < k->g f p i<=g f p j
noncomputable def Dn (f:Nat->Int)(p:Array Nat)(k:Nat):Prop:=∀ i j,i<=j->j < k->g f p j<=g f p i
def cf (f:Nat->Int)(i j:Nat):Bool:=decide (f i < f j)
theorem O7 {p:Array Nat}(hp:Pm n p):∀ (q m:Nat),1<=m->m + q<=n->Up f p m->gE n (cf f) (kas_asc p q m) (λm'=>m<=m'/\m'<=m + q/\Up f p m'/\(m' < m + q->g f p m' < g f p (m' - 1)))
 | 0,m,_,_,hu=>⟨zD _,zD _,hu,λh=>absurd h (yS _)⟩
 | q + 1,m,h1,h2,hu=>by
  unfold kas_asc;refine ⟨by rw [qK];exact hp.lt (by omega),by rw [qK];exact hp.lt (by omega),?_⟩;rw [qK,qK];by_cases hc:g f p m < g f p (m - 1)
  ·have e:cf f (at' p m) (at' p (m - 1))=true:=decide_eq_true hc;rw [e];dsimp only;rw [if_pos rfl];exact ⟨zD _,by omega,hu,λ_=>hc⟩
  ·have e:cf f (at' p m) (at' p (m - 1))=false:=decide_eq_false hc;rw [e];dsimp only;rw [if_neg zP];refine gE.mono (λm' h=>⟨by omega,by omega,h.2.2.1,λz=>h.2.2.2 (by omega)⟩) _ (O7 hp q (m + 1) (by omega) (by omega) λi j Nk hj=>?_);by_cases Yz:j < m
   ·exact hu i j Nk Yz
   ·have ej:j=m:=by omega
    subst ej;by_cases hi:i=j
    ·subst hi;omega
    ·have:=hu i (j - 1) (by omega) (by omega);omega
noncomputable def Blk (f:Nat->Int)(p:Array Nat)(m q:Nat):Prop:=∀ i,m<=i + (q + 1)->i < m->g f p i=g f p (m - 1)
theorem nM {p:Array Nat}(hp:Pm n p){m q:Nat}(hm:m<=n)(hq:q + 1<=m)(hb:Blk f p m q)(k:Nat):g f (kas_rev p (m - (q + 1)) m) k=g f p k:=by
 rw [Qa (by rw [hp.size];exact hm)];split
 ·rename_i h;rw [hb _ (by omega) (by omega),hb k (by omega) (by omega)]
 ·rfl
theorem uL:∀ (t:Nat) (p:Array Nat) (m q:Nat),Pm n p->1<=m->m + t<=n->q + 1<=m->Dn f p m->Blk f p m q ->
  gE n (cf f) (kas_desc t p m q) (λr=>Pm n r.1/\m<=r.2.1/\r.2.1<=n/\r.2.2 + 1<=r.2.1/\Dn f r.1 r.2.1/\Blk f r.1 r.2.1 r.2.2)
 | 0,p,m,q,hp,h1,h2,h3,hd,hb=>⟨hp,zD _,by simpa using h2,h3,hd,hb⟩
 | t + 1,p,m,q,hp,h1,h2,h3,hd,hb=>by
  unfold kas_desc;refine ⟨by rw [qK];exact hp.lt (by omega),by rw [qK];exact hp.lt (by omega),?_⟩;rw [qK,qK];by_cases hc:g f p m < g f p (m - 1)
  ·have e:cf f (at' p m) (at' p (m - 1))=true:=decide_eq_true hc;rw [e];dsimp only;rw [if_pos rfl];have step:∀ p':Array Nat,Pm n p'->(∀ k,g f p' k=g f p k)->gE n (cf f) (kas_desc t p' (m + 1) 0) (λr=>Pm n r.1/\m<=r.2.1/\r.2.1<=n/\r.2.2 + 1<=r.2.1/\Dn f r.1 r.2.1/\Blk f r.1 r.2.1 r.2.2):=λp' Zj hg=>by
    refine gE.mono (λr h=>⟨h.1,by omega,h.2.2⟩) _ (uL t p' (m + 1) 0 Zj (by omega) (by omega) (by omega) (λi j Nk hj=>?_) λi hi fm=>?_)
    ·rw [hg,hg];by_cases Yz:j < m
     ·exact hd i j Nk Yz
     ·have ej:j=m:=by omega
      subst ej;by_cases hi:i=j
      ·subst hi;omega
      ·have:=hd i (j - 1) (by omega) (by omega);omega
    ·have:i=m + 1 - 1:=by omega
     rw [this]
   split
   ·exact step _ (hp.rev _ _) (nM hp (by omega) h3 hb)
   ·exact step _ hp λ_=>rfl
  ·have e:cf f (at' p m) (at' p (m - 1))=false:=decide_eq_false hc;rw [e];dsimp only;rw [if_neg zP];refine ⟨hp.lt (by omega),hp.lt (by omega),?_⟩;by_cases hc2:g f p (m - 1) < g f p m
   ·have e2:cf f (at' p (m - 1)) (at' p m)=true:=decide_eq_true hc2;rw [e2];dsimp only;rw [if_pos rfl];exact ⟨hp,zD _,by show m<=n;omega,h3,hd,hb⟩
   ·have e2:cf f (at' p (m - 1)) (at' p m)=false:=decide_eq_false hc2;rw [e2];dsimp only;rw [if_neg zP];have eq:g f p m=g f p (m - 1):=by omega
    refine gE.mono (λr h=>⟨h.1,by omega,h.2.2⟩) _ (uL t p (m + 1) (q + 1) hp (by omega) (by omega) (by omega) (λi j Nk hj=>?_) λi hi fm=>?_)
    ·by_cases Yz:j < m
     ·exact hd i j Nk Yz
     ·have ej:j=m:=by omega
      subst ej;by_cases hi:i=j
      ·subst hi;omega
      ·have:=hd i (j - 1) (by omega) (by omega);omega
    ·rw [show m + 1 - 1=m from rfl];by_cases YA:i=m
     ·rw [YA]
     ·rw [hb i (by omega) (by omega),eq]
theorem vv {p:Array Nat}{m:Nat}(hp:Pm n p)(h1:1<=m)(hm:m<=n)(hd:Dn f p m):gE n (cf f) (kas_tail3 m n p) (λr=>Pm n r.2/\r.1<=n/\1<=r.1/\Up f r.2 r.1):=by unfold kas_tail3;have Zj:=hp.rev 0 m;refine gE.bind _ (gE.mono (λm' h=>⟨Zj,by omega,by omega,h.2.2.1⟩) _ (O7 Zj (n - m) m h1 (by omega) λi j Nk hj=>?_));rw [Qa (by rw [hp.size];exact hm),Qa (by rw [hp.size];exact hm),if_pos ⟨by omega,by omega⟩,if_pos ⟨by omega,by omega⟩];exact hd _ _ (by omega) (by omega)
theorem lV {p:Array Nat}{m:Nat}(hp:Pm n p)(h1:1<=m)(hm:m < n)(hd:Dn f p (m + 1)):gE n (cf f) (kas_descPart m n p) (λr=>Pm n r.2/\r.1<=n/\1<=r.1/\Up f r.2 r.1):=by
 unfold kas_descPart;refine gE.bind _ (gE.mono (λr h=>?_) _ (uL (n - (m + 1)) p (m + 1) 0 hp (by omega) (by omega) (by omega) hd λi hi fm=>by rw [show i=m + 1 - 1 by omega]));obtain ⟨a1,a2,a3,a4,a5,a6⟩:=h;split
 ·exact vv (a1.rev _ _) (by omega) a3 λi j Nk hj=>by
   rw [nM a1 a3 a4 a6,nM a1 a3 a4 a6];exact a5 i j Nk hj
 ·exact vv a1 (by omega) a3 a5
theorem Ub {p:Array Nat}(hn:1<=n)(hp:Pm n p):gE n (cf f) (kas_count n p) (λr=>Pm n r.2/\r.1<=n/\1<=r.1/\Up f r.2 r.1):=by
 unfold kas_count;refine gE.bind _ (gE.mono (λm h=>?_) _ (O7 hp (n - 1) 1 (zD _) (by omega) λi j Nk hj=>by rw [show i=j by omega];omega));obtain ⟨a1,a2,a3,a4⟩:=h;split
 ·exact ⟨hp,by omega,a1,a3⟩
 ·rename_i ve;have c8:m < n:=by
   have:¬ m=n:=by simpa using ve
   omega
  have a4':=a4 (by omega);split
  ·rename_i hm1;refine ⟨by rw [qK];exact hp.lt (by omega),by rw [qK];exact hp.lt (by omega),?_⟩;rw [qK,qK];by_cases hc:g f p 0 < g f p (m - 1)
   ·have e:cf f (at' p 0) (at' p (m - 1))=true:=decide_eq_true hc;rw [e];dsimp only;rw [if_pos rfl];exact ⟨hp,by omega,a1,a3⟩
   ·have e:cf f (at' p 0) (at' p (m - 1))=false:=decide_eq_false hc;rw [e];dsimp only;rw [if_neg zP];have all:∀ k,k < m->g f p k=g f p 0:=λk hk=>by
     have:=a3 0 k (by omega) hk;have:=a3 k (m - 1) (by omega) (by omega);omega
    have gr:∀ k,g f (kas_rev p 0 m) k=g f p k:=λk=>by
     rw [Qa (by rw [hp.size];omega)];split
     ·rw [all _ (by omega),all k (by omega)]
     ·rfl
    refine lV (hp.rev _ _) a1 c8 λi j Nk hj=>?_;rw [gr,gr];by_cases Yz:j < m
    ·rw [all i (by omega),all j Yz];omega
    ·have ej:j=m:=by omega
     subst ej;by_cases hi:i=j
     ·subst hi;omega
     ·have:=all i (by omega);have:=all (j - 1) (by omega);omega
  ·refine lV hp a1 c8 λi j Nk hj=>?_;have em:m=1:=by omega
   subst em;by_cases hi:i=j
   ·subst hi;omega
   ·have e1:i=0:=by omega
    have e2:j=1:=by omega
    subst e1 e2;have:g f p 1 < g f p 0:=a4';omega
theorem nQ {p:Array Nat}{k:Nat}(hp:Pm n p)(hk:k < n)(hu:Up f p k):∀ (t l r:Nat),l<=r->r<=k->r<=l + t->(∀ i,i < l->g f p i<=g f p k)->(∀ i,r<=i->i < k->g f p k < g f p i) ->
  gE n (cf f) (kas_place p k t l r) (λl'=>l'<=k/\(∀ i,i < l'->g f p i<=g f p k)/\∀ i,l'<=i->i < k->g f p k < g f p i)
 | 0,l,r,h1,h2,h3,ha,hb=>⟨by omega,ha,λi hi fm=>hb i (by omega) fm⟩
 | t + 1,l,r,h1,h2,h3,ha,hb=>by
  unfold kas_place;split
  ·exact ⟨by omega,ha,λi hi fm=>hb i (by omega) fm⟩
  ·rename_i Nj;refine ⟨by rw [qK];exact hp.lt hk,by rw [qK];exact hp.lt (by omega),?_⟩;rw [qK,qK];by_cases hc:g f p k < g f p ((l + r) / 2)
   ·have e:cf f (at' p k) (at' p ((l + r) / 2))=true:=decide_eq_true hc;rw [e];dsimp only;rw [if_pos rfl];refine nQ hp hk hu t l ((l + r) / 2) (by omega) (by omega) (by omega) ha λi hi fm=>?_;have:=hu ((l + r) / 2) i (by omega) fm;omega
   ·have e:cf f (at' p k) (at' p ((l + r) / 2))=false:=decide_eq_false hc;rw [e];dsimp only;rw [if_neg zP];refine nQ hp hk hu t ((l + r) / 2 + 1) r (by omega) (by omega) (by omega) (λi hi=>?_) hb;have:=hu i ((l + r) / 2) (by omega) (by omega);omega
theorem Uk:∀ (t:Nat) (p:Array Nat) (k:Nat),Pm n p->k + t=n->Up f p k->gE n (cf f) (kas_bin t p k) (λp'=>Pm n p'/\Up f p' n)
 | 0,p,k,hp,hk,hu=>⟨hp,by rw [<-hk];exact hu⟩
 | t + 1,p,k,hp,hk,hu=>by
  unfold kas_bin;refine gE.bind _ (gE.mono (λl h=>?_) _ (nQ hp (by omega) hu k 0 k (by omega) (by omega) (by omega) (λi hi=>absurd hi (yB _)) λi hi fm=>absurd fm (by omega)));obtain ⟨a1,a2,a3⟩:=h;refine Uk t _ (k + 1) (hp.bub _ _) (by omega) λi j Nk hj=>?_;have hs:k < p.size:=by rw [hp.size];omega
  rw [WU hs (by omega),WU hs (by omega)];have el:k - (k - l)=l:=by omega
  rw [el];by_cases hil:i=l
  ·rw [if_pos hil];by_cases hjl:j=l
   ·rw [if_pos hjl];omega
   ·rw [if_neg hjl,if_pos ⟨by omega,by omega⟩];have:=a3 (j - 1) (by omega) (by omega);omega
  ·rw [if_neg hil];by_cases YA:l < i/\i<=k
   ·rw [if_pos YA];rw [if_neg (by omega),if_pos ⟨by omega,by omega⟩];exact hu _ _ (by omega) (by omega)
   ·rw [if_neg YA];have hi3:i < l:=by omega
    by_cases hjl:j=l
    ·rw [if_pos hjl];exact a2 i hi3
    ·rw [if_neg hjl];by_cases hj2:l < j/\j<=k
     ·rw [if_pos hj2];exact hu _ _ (by omega) (by omega)
     ·rw [if_neg hj2];exact hu _ _ Nk (by omega)
theorem Pw (hn:1<=n):gE n (cf f) (kas_sort n) (λp=>Pm n p/\Up f p n):=by
 unfold kas_sort;refine gE.bind _ (gE.mono (λr h=>?_) _ (Ub hn (show Pm n (List.toArray (List.range n)) from Array.Perm.refl _)));obtain ⟨a1,a2,a3,a4⟩:=h;split
 ·have e:max r.1 1=r.1:=by omega
  rw [e];exact Uk _ _ _ a1 (by omega) a4
 ·have e:r.1=n:=by omega
  exact ⟨a1,by rw [<-e];exact a4⟩
end
end bh
namespace bh
noncomputable def lx:List Int->List Int->Bool
 | [],[]=>false
 | [],_::_=>true
 | _::_,[]=>false
 | x::xs,y::ys=>if x=y then lx xs ys else decide (x < y)
theorem Tg:∀ r:List Int,lx r r=false
 | []=>rfl
 | x::xs=>by unfold lx;rw [if_pos rfl];exact Tg xs
theorem Te:∀ {a b c:List Int},lx a b=true->lx b c=true->lx a c=true
 | [],[],_,h,_=>by cases h
 | [],_::_,[],_,h=>by cases h
 | [],_::_,_::_,_,_=>rfl
 | _::_,[],_,h,_=>by cases h
 | _::_,_::_,[],_,h=>by cases h
 | x::xs,y::ys,z::zs,h,h'=>by
  unfold lx at h h' ⊢;split at h
  ·split at h'
   ·rename_i e1 e2;rw [if_pos (e1.trans e2)];exact Te h h'
   ·rename_i e1 e2;simp only [decide_eq_true_eq] at h';rw [if_neg (by omega)];simp only [decide_eq_true_eq];omega
  ·simp only [decide_eq_true_eq] at h;split at h'
   ·rename_i e1 e2;rw [if_neg (by omega)];simp only [decide_eq_true_eq];omega
   ·simp only [decide_eq_true_eq] at h';rw [if_neg (by omega)];simp only [decide_eq_true_eq];omega
theorem Tf:∀ {a b:List Int},lx a b=false->lx b a=false->a=b
 | [],[],_,_=>rfl
 | [],_::_,h,_=>by cases h
 | _::_,[],_,h=>by cases h
 | x::xs,y::ys,h,h'=>by
  unfold lx at h h';split at h
  ·rename_i e;subst e;rw [if_pos rfl] at h';rw [Tf h h']
  ·rename_i e;rw [if_neg λz=>e z.symm] at h';simp only [decide_eq_false_iff_not] at h h';omega
noncomputable def rk (rs:List (List Int))(r:List Int):Int:=((rs.countP λx=>lx x r:Nat):Int)
theorem iC {α:Type}{p q:α->Bool}{a:α}:∀ {l:List α},(∀ x,p x=true->q x=true)->a∈l->p a=false->q a=true->l.countP p < l.countP q
 | [],_,h,_,_=>by cases h
 | x::l,hpq,h,h1,h2=>by
  have hm:l.countP p<=l.countP q:=List.countP_mono_left λx _=>hpq x;rcases zH.mp h with rfl | h
  ·rw [List.countP_cons_of_neg (by rw [h1];exact zP),List.countP_cons_of_pos h2];omega
  ·have:=iC hpq h h1 h2;rw [List.countP_cons,List.countP_cons];cases e:p x with
   | true=>rw [hpq x e];simp;omega
   | false=>cases e2:q x <;> simp <;> omega
theorem rZ {rs:List (List Int)}{a b:List Int}(ha:a∈rs):decide (rk rs a < rk rs b)=lx a b:=by
 unfold rk;cases h:lx a b with
 | true=>
  have:=iC (p:=λx=>lx x a) (q:=λx=>lx x b) (λx hx=>Te hx h) ha (Tg a) h;simp only [decide_eq_true_eq];omega
 | false=>
  have hm:rs.countP (λx=>lx x b)<=rs.countP (λx=>lx x a):=List.countP_mono_left λx _ hx=>by
   cases h':lx b a with
   | true=>exact Te hx h'
   | false=>rw [Tf h h'];exact hx
  simp only [decide_eq_false_iff_not];omega
end bh
namespace L2
open PySem PySem.Spec PyProof.Rows PySem.W bh
theorem bJ.at {P:Program}{w:World}{H:Hp}{h:Heap}{a:Addr}{o:HO}(x:bJ P w H h a o):∃ ob,h.get? a=some ob:=by
 cases o with
 | lst xs=>obtain ⟨_,_,_,_,e⟩:=x;exact ⟨_,e⟩
 | tup xs=>obtain ⟨_,_,_,ob,e,_⟩:=x;exact ⟨_,e⟩
 | dK aN=>obtain ⟨_,_,_,_,o,_,_,e,_⟩:=x;exact ⟨_,e⟩
 | dT aN=>obtain ⟨_,_,_,_,o,_,_,e,_⟩:=x;exact ⟨_,e⟩
 | set S n=>obtain ⟨o,_,_,_,e,_⟩:=x;exact ⟨_,e⟩
 | ins C dx fs=>obtain ⟨_,_,_,e,_⟩:=x;exact ⟨_,e⟩
 | own y=>obtain ⟨_,e⟩:=x;exact ⟨_,e⟩
 | xd fs=>obtain ⟨_,⟨_,_,_,e,_⟩,_⟩:=x;exact ⟨_,e⟩
 | rng lo hi=>obtain ⟨_,_,_,e⟩:=x;exact ⟨_,e⟩
 | uF ob u=>obtain ⟨e,_⟩:=x;exact ⟨_,e⟩
 | lG ps=>exact ⟨_,(show h.get? a=some _ from x)⟩
 | met f y=>exact ⟨_,(show h.get? a=some _ from x)⟩
 | ext φ=>obtain ⟨_,⟨_,e⟩,_⟩:=x;exact ⟨_,e⟩
section
variable {X:Cx}{af:List (Addr×Obj)}{σ:St}{H:Hp}{s:Shared}
theorem Inv.Sw {m:Str->Option Value}{h':Heap}{D:Addr}{aH:List Value}{c:Nat}{xs:List V}(I:Inv X af σ H s)(F0:Fr X.base X.env.locals s.heap m)(F:Fr X.base X.env.locals h' m)
  (N:News X.base X.env.locals h' ((D,listOf aH.toArray c)::gc X.base s.heap X.env.locals)) (lt:∀ q∈gc X.base s.heap X.env.locals,q.1 < D) (hv:Vals xs aH) (hz:xs.length<=sizeLine) :
  Inv X af σ (upd H D (.lst xs)) { s with heap:=h' }/\H D=none:=by
 obtain ⟨eD,nL,nb⟩:=N (D,listOf aH.toArray c) (.head _);have Z4:s.heap.get? D=none:=by
  cases q:s.heap.get? D with
  | none=>rfl
  | some o=>exact absurd (lt (D,o) (ee nL nb q)) (yS _)
 have hD:H D=none:=by
  cases q:H D with
  | none=>rfl
  | some u=>
   obtain ⟨ob,e⟩:=(I.bF D u q).at;rw [Z4] at e;cases e
 have keep:∀ b o,b≠X.env.locals->s.heap.get? b=some o->h'.get? b=some o:=λb o hb e=>by
  cases q:X.base.get? b with
  | some u=>
   have:=I.bk b u q;rw [e] at this;cases this;exact F.keep b _ q
  | none=>exact (N (b,o) (.tail _ (ee hb q e))).1
 have X3:∀ b o,s.heap.get? b=some o->b≠D:=λb o e z=>by rw [z,Z4] at e;cases e
 have neT:∀ b u,H b=some u->b≠D:=λb u e z=>by rw [z,hD] at e;cases e
 refine ⟨I.step (g':=s.gens) (t':=s.toks) (d':=s.drawn) (ch:=[]) (λ_ z=>nomatch z) (λb o hb _ _ e _=>keep b o hb e) (λb o hb _ _ e _=>⟨o.slots,keep b o hb e⟩) (λb o _ e n=>by rw [wF (X3 b o e)];exact n) (λb o _ e=>?_)
  (λb ys e=>by rw [wF (neT b _ e)];exact e) (λb o u e=>by rw [wF (neT b _ e)];exact e) (λb ps e=>⟨#[],by rw [wF (neT b _ e),e,Array.append_empty]⟩) (λm' hm=>?_) (λb u e=>?_) I.bare,hD⟩
 ·by_cases hb:b=X.env.locals
  ·obtain ⟨o',_,_,q,_⟩:=F.ns;exact ⟨o',by rw [hb];exact q⟩
  ·exact ⟨o,keep b o hb e⟩
 ·obtain ⟨o1,WZ,ep1,e1,d1,k1,f1⟩:=hm;obtain ⟨o2,es2,ep2,e2,d2,k2,f2⟩:=F0.ns;rw [e1] at e2;cases e2;rw [d1] at d2;cases d2;obtain ⟨o3,es3,ep3,e3,d3,k3,f3⟩:=F.ns;exact ⟨o3,es3,ep3,e3,d3,k3,λname=>(f3 name).trans ((f2 name).symm.trans (f1 name))⟩
 ·by_cases hb:b=D
  ·subst hb;rw [xq] at e;cases e;exact ⟨hz,aH,c,hv,eD⟩
  ·rw [wF hb] at e;refine (I.bF b u e).dX (λc v hc q=>keep c v (λz=>?_) q) (λc q=>by rw [wF (neT c _ q)];exact q) λc ys q=>by rw [wF (neT c _ q)];exact q
   rcases hc with rfl | hc
   ·rw [z,I.free] at e;cases e
   ·rw [z,I.free] at hc;cases hc
end
section
variable {prog:Program}{w:World}{A:Around}{E:Value->Shared->Prop}{s:Shared}
theorem Ot {aH:List Value}(gH:aH.length < 2):(aH.toArray.zip aH.toArray).map (·.2)=aH.toArray:=by
 rcases aH with _ | ⟨x,_ | ⟨y,r⟩⟩
 ·simp
 ·simp
 ·exact absurd gH (by simp)
theorem Oq {a:Addr}{aH:List Value}{k:Nat}{P:PySem.Fin->Shared->Prop}(hx:s.heap.get? a=some (seqObj "list" aH.toArray k))(gH:aH.length < 2)
  (done:P (.done (.ret .none)) { s with heap:=sortedHeap s.heap a aH aH.toArray }):wpAny (model prog w) A (Builtin.«list.sort» ⟨[.ref a],[]⟩) P E s:=by
 have here:a < s.heap.objs.size:=Heap.lt_size hx;have line:aH.length<=sizeLine:=by rw [sizeLine_eq];omega
 rw [list_sort_plain];obtain ⟨e1,at1⟩:∃ e1,(s.heap.update a (Obj.mapSeq λ_=>(#[]:Array Value))).get? a=some (seqObj "list" #[] e1):=⟨_,get?_update_seq hx (λ_=>#[])⟩;refine wpAny_bind (listItems_at hx rfl (wpAny_bind (listUpdate_at hx rfl (wpAny_bind (seqEpoch_at at1 rfl (wpAny_bind (wpAny_newTuple (wpAny_bind (wpAny_newList (wpAny_holding ?_) (za _))) line))))
  (by rw [zR];exact line) (za _))))
 have at2:(((s.heap.update a (Obj.mapSeq λ_=>(#[]:Array Value))).push (seqObj "tuple" aH.toArray 0)).push (seqObj "list" #[] 0)).get? a=some (seqObj "list" #[] e1):=
  Heap.get?_push_of_some _ (Heap.get?_push_of_some _ at1)
 show wpAny (model prog w) A _ P E { s with heap:=((s.heap.update a (Obj.mapSeq λ_=>(#[]:Array Value))).push (seqObj "tuple" aH.toArray 0)).push (seqObj "list" #[] 0) };have less:aH.toArray.size < 2:=by rw [zR];exact gH
 have ZR:(arrOf (SortSt.mk' general' (aH.toArray.zip aH.toArray) #[] 7 none)).map (·.2)=aH.toArray:=by
  show (aH.toArray.zip aH.toArray).map (·.2)=aH.toArray;exact Ot gH
 dsimp only;rw [if_pos less,if_pos less];refine wpAny_bind (wpAny_pure ?_);rw [StateT.run_pure];refine wpAny_bind (wpAny_pure ?_);dsimp only;refine wpAny_bind (seqEpoch_at at2 rfl (wpAny_bind (listUpdate_at at2 rfl ?_ (za _) (by rw [ZR,zR];omega))));simp only [bne_self_eq_false,zg,if_false];rw [ZR];exact wpAny_pure done
theorem ua {l:Addr}{aH:List Value}{Q:Value->Shared->Prop}(hl:s.heap.IsList l aH.toArray)(gH:aH.length < 2)
  (done:Q (.ref (s.heap.objs.size + 1)) { s with heap:=sortedAll s.heap aH aH.toArray }):wpAny (model prog w) A (call (.builtin "sorted") [.ref l]) Q E s:=by
 have line:aH.length<=sizeLine:=by rw [sizeLine_eq];omega
 refine Calls.call_function_entry kind_sorted plain_sorted entry_sorted (args_sorted1 _) ?_;unfold Builtin.«sorted»;refine wpAny_bind (m:=checkCount "sorted" 1 1 _) (wpAny_pure (wpAny_bind (collect_list hl (wpAny_bind (wpAny_newList ?_ line)) line)));have sz:((s.heap.push (seqObj "list" #[] 0)).update s.heap.objs.size (Obj.mapSeq (·++aH.toArray))).objs.size=s.heap.objs.size + 1:=by rw [Heap.size_update,size_push']
 have atL:(((s.heap.push (seqObj "list" #[] 0)).update s.heap.objs.size (Obj.mapSeq (·++aH.toArray))).push (seqObj "list" aH.toArray 0)).get? (s.heap.objs.size + 1)=some (seqObj "list" aH.toArray 0):=by
  rw [<-sz];exact Heap.get?_push_size _ rfl
 show wpAny _ _ _ _ _ { s with heap:=((s.heap.push (seqObj "list" #[] 0)).update s.heap.objs.size (Obj.mapSeq (·++aH.toArray))).push (seqObj "list" aH.toArray 0) };rw [sz];exact wpAny_bind (wpAny_holding (wpAny_call_entry slot_list_sort ⟨_,atL,rfl⟩ entry_list_sort (Oq atL gH ⟨_,rfl,wpAny_pure ⟨_,rfl,done⟩⟩) (args_list_sort _)))
end
section
variable {X:Cx}
theorem iu:∀ {ps:List (Addr×List Int)}{us:List Value},Vals (ps.map λa=>V.ref a.1) us->us=ps.map λa=>Value.ref a.1
 | [],us,r=>by cases r;rfl
 | a::ps,us,r=>by
  cases r with
  | cons x y=>rw [iu y];cases x;rfl
noncomputable def Ur (h:Heap)(a:Addr)(r:List Int):Prop:=∃ o items n,h.get? a=some o/\o.cls=.type "tuple" /\ o.data=.seq items n/\Vals (r.map V.int) items.toList
theorem mW {prog:Program}{w:World}{A:Around}{s:Shared}{b fin:Bool}{Q:Bool->Shared->Prop}:∀ {r r':List Int}{us Xk:List Value}{i:Nat},Vals (r.map V.int) us->Vals (r'.map V.int) Xk->fin=decide (us.length < Xk.length)->Q (lx r r') s ->
  KatLex prog w A b fin Q (us.zip Xk) i s
 | [],[],us,Xk,i,ru,Vn,hf,q=>by cases ru;cases Vn;exact kat_nil (by rw [hf];exact q)
 | [],_::_,us,Xk,i,ru,Vn,hf,q=>by
  cases ru;cases Vn with
  | cons _ _=>exact kat_nil (by rw [hf];simpa [lx] using q)
 | _::_,[],us,Xk,i,ru,Vn,hf,q=>by
  cases Vn;cases ru with
  | cons _ _=>exact kat_nil (by rw [hf];simpa [lx] using q)
 | x::r,y::r',us,Xk,i,ru,Vn,hf,q=>by
  cases ru with
  | cons rx ru=>
  cases Vn with
  | cons ry Vn=>
  obtain ⟨t,rfl⟩:=rx;obtain ⟨t',rfl⟩:=ry;refine kat_cons (wpAny_eqBool_int ?_);unfold lx at q;by_cases e:x=y
  ·subst e;rw [if_pos rfl] at q;rw [show (x == x)=true from by simp];exact kat_yes (mW ru Vn (by rw [hf];simp) q)
  ·rw [if_neg e] at q;rw [show (x == y)=false from by simpa using e];refine kat_no ?_;cases (b && i == 0) with
   | true=>exact oneLt_int q
   | false=>exact kat_one _ _ (lt_int q)
theorem ou {h:Heap}:∀ {ps:List (Addr×List Int)},(∀ a∈ps,Ur h a.1 a.2/\a.2≠[])->∃ fs,KatTups h (ps.map λa=>Value.ref a.1) fs/\fs.length=ps.length/\∀ v∈fs,∃ i t,v=Value.int i t
 | [],_=>⟨[],KatTups.nil,rfl,λ_ z=>nomatch z⟩
 | (a,r)::ps,hp=>by
  obtain ⟨fs,k,l,f⟩:=ou λa ha=>hp a (.tail _ ha);obtain ⟨⟨o,items,n,ho,hc,hd,hv⟩,hn⟩:=hp (a,r) (.head _)
  match r,hn,hv with
  | x::r,_,hv=>
   obtain ⟨u,hu,t,e⟩:=Vals.get (i:=0) hv rfl;refine ⟨u::fs,KatTups.cons ho hc hd (by rw [<-hu];simp) k,by simp [l],λv hv=>?_⟩;rcases zH.mp hv with rfl | hv
   ·exact ⟨x,t,e⟩
   ·exact f v hv
theorem r6 {α:Type}(d:α)(l:List α):(List.range l.length).map (λi=>l.getD i d)=l:=by
 apply List.ext_getElem
 ·simp
 ·intro i h1 h2;simp [List.getD,h2]
theorem fQ:∀ (ps:List (Addr×List Int)),Vals (ps.map λa=>V.ref a.1) (ps.map λa=>Value.ref a.1)
 | []=>.nil
 | _::ps=>.cons rfl (fQ ps)
theorem pB:dm X (.builtin "sorted") (λxs H Q=>∃ p,∃ ps:List (Addr×List Int),xs=[.ref p]/\aU X.K H p (ps.map λa=>V.ref a.1)/\ps.length < 64/\(∀ a∈ps,H a.1=some (.tup (a.2.map V.int))/\a.2≠[]) /\
  ∀ l qs,H l=none->List.Perm qs ps->qs.Pairwise (λa b=>lx b.2 a.2=false)->Q (.ref l) (upd H l (.lst (qs.map λa=>V.ref a.1)))):=by
 intro af s σ H xs us Q I r h;obtain ⟨p,ps,rfl,hq,h64,cy,q⟩:=h;obtain ⟨u,rfl,rx⟩:=vals1 r;cases rx;obtain ⟨aH,r',pl,hz⟩:=I.list hq;have ei:=iu r';subst ei;have hlen:(ps.map λa=>Value.ref a.1).length=ps.length:=by simp
 by_cases h2:ps.length < 2
 ·refine ua pl.isList (by omega) ?_;have sz:((s.heap.push (seqObj "list" #[] 0)).update s.heap.objs.size (Obj.mapSeq (·++(ps.map λa=>Value.ref a.1).toArray))).objs.size=s.heap.objs.size + 1:=by rw [Heap.size_update,size_push']
  have kp:∀ b o,s.heap.get? b=some o->(sortedAll s.heap (ps.map λa=>Value.ref a.1) (ps.map λa=>Value.ref a.1).toArray).get? b=some o:=λb o e=>by
   have lb:b < s.heap.objs.size:=Heap.lt_size e;unfold sortedAll sortedHeap;rw [Heap.get?_update_ne _ _ _ _ (zY (yn lb))];refine Heap.get?_push_of_some _ (Heap.get?_push_of_some _ ?_);rw [Heap.get?_update_ne _ _ _ _ (zY (yn lb))];refine Heap.get?_push_of_some _ ?_;rw [Heap.get?_update_ne _ _ _ _ (zY lb)];exact Heap.get?_push_of_some _ e
  obtain ⟨c,ec⟩:∃ c,(sortedAll s.heap (ps.map λa=>Value.ref a.1) (ps.map λa=>Value.ref a.1).toArray).get? (s.heap.objs.size + 1)=some (seqObj "list" (ps.map λa=>Value.ref a.1).toArray c):=by
   have e0:=Heap.get?_push_size ((s.heap.push (seqObj "list" #[] 0)).update s.heap.objs.size (Obj.mapSeq (·++(ps.map λa=>Value.ref a.1).toArray))) (o:=seqObj "list" (ps.map λa=>Value.ref a.1).toArray 0) rfl;rw [sz] at e0;unfold sortedAll sortedHeap;have e1:=get?_update_seq e0 (λ_=>(#[]:Array Value));exact ⟨_,get?_update_seq (Heap.get?_push_of_some _ (Heap.get?_push_of_some _ e1)) _⟩
  refine ⟨.ref (s.heap.objs.size + 1),_,I.laid (t':=s.toks) kp (xP _) (show bJ X.prog X.w _ _ _ (.lst (ps.map λa=>V.ref a.1)) from ⟨hz,_,c,r',ec⟩),rfl,q _ ps (I.bF.fresh (xP _)) (List.Perm.refl _) ?_⟩
  match ps,h2 with
  | [],_=>exact .nil
  | [_],_=>exact List.pairwise_singleton _ _
 ·obtain ⟨m,F⟩:=I.fr;refine kat_sorted F (vR (g:=X.base) (h:=s.heap)) pl.isList (by omega) (by omega) λD e1 h' F' N' lt=>?_;have keep:∀ b o,b≠X.env.locals->s.heap.get? b=some o->h'.get? b=some o:=λb o hb e=>by
   cases q:X.base.get? b with
   | some u=>
    have:=I.bk b u q;rw [e] at this;cases this;exact F'.keep b _ q
   | none=>exact (N' (b,o) (.tail _ (ee hb q e))).1
  have rowAt:∀ a∈ps,Ur h' a.1 a.2/\a.2≠[]:=λa ha=>by
   obtain ⟨ht,hn⟩:=cy a ha;obtain ⟨_,aH,rv,o,e,c,n,d⟩:=I.bF a.1 _ ht;refine ⟨⟨o,_,n,keep a.1 o (λz=>?_) e,c,d,rv⟩,hn⟩;rw [z,I.free] at ht;cases ht
  obtain ⟨fs,kt,lf,hf⟩:=ou rowAt;refine kat_kind (T:=.type "int") kt (by omega) (λv hv=>?_) (by decide) ?_
  ·obtain ⟨i,t,rfl⟩:=hf v hv;exact Looks.now
  have n1:1<=(ps.map λa=>Value.ref a.1).length:=by omega
  refine gE.wp (c:=cf λi=>rk (ps.map (·.2)) ((ps.map (·.2)).getD i [])) (λi j C hi hj hC=>?_) (λpp hp=>?_) _ (Pw (f:=λi=>rk (ps.map (·.2)) ((ps.map (·.2)).getD i [])) n1)
  ·have fm:i < ps.length:=by omega
   have P7:j < ps.length:=by omega
   obtain ⟨⟨o,items,n,ho,hc,hd,hv⟩,hn⟩:=rowAt ps[i] (zx fm);obtain ⟨⟨o',Yl,n',rj,UG,Rg,WN⟩,VY⟩:=rowAt ps[j] (zx P7);unfold kas_ask;have ei:(ps.map λa=>Value.ref a.1).getD i Value.none=.ref ps[i].1:=by simp [fm]
   have ej:(ps.map λa=>Value.ref a.1).getD j Value.none=.ref ps[j].1:=by simp [P7]
   rw [ei,ej];refine kat_lt ho hd rj Rg (mW hv WN (by simp) ?_);have e:cf (λi=>rk (ps.map (·.2)) ((ps.map (·.2)).getD i [])) i j=lx ps[i].2 ps[j].2:=by
    unfold cf;have e1:(ps.map (·.2)).getD i []=ps[i].2:=by simp [fm]
    have e2:(ps.map (·.2)).getD j []=ps[j].2:=by simp [P7]
    simp only [e1,e2];exact rZ (zK.mpr ⟨ps[i],zx fm,rfl⟩)
   rw [e] at hC;exact hC
  ·obtain ⟨pm,up⟩:=hp;refine KasFin.intro F' N' (UpdF.head λx hx=>zY (lt x hx)) λWT c F2 N2=>?_;have pl:pp.toList.Perm (List.range ps.length):=by
    have:=pm.toList;rw [hlen] at this;simpa using this
   have eo:(pp.toList.map λi=>(ps.map λa=>Value.ref a.1).getD i Value.none)=(pp.toList.map λi=>ps.getD i (0,[])).map λa=>Value.ref a.1:=by
    rw [zo];refine yH λi hi=>?_;have fm:i < ps.length:=zh.mp (pl.mem_iff.mp hi);simp [fm]
   have perm:(pp.toList.map λi=>ps.getD i (0,[])).Perm ps:=by
    have:=pl.map λi=>ps.getD i (0,[]);rwa [r6] at this
   rw [eo] at N2;have hzz:((pp.toList.map λi=>ps.getD i (0,[])).map λa=>V.ref a.1).length<=sizeLine:=by
    rw [zA,perm.length_eq,sizeLine_eq];omega
   obtain ⟨I2,hD⟩:=I.Sw F F2 N2 lt (fQ _) hzz;refine ⟨.ref D,_,I2,rfl,q D _ hD perm ?_⟩;rw [zl];intro i j hi hj Nk;simp only [zA,Array.length_toList] at hi hj;simp only [List.getElem_map,Array.getElem_toList];have hn:pp.size=ps.length:=by rw [pm.size];exact hlen
   have key:=up i j (xY Nk) (by omega);have a1:pp[i] < ps.length:=zh.mp (pl.mem_iff.mp (by simp));have a2:pp[j] < ps.length:=zh.mp (pl.mem_iff.mp (by simp));unfold g at'  at key;simp only [hi,hj,getElem?_pos,Option.getD_some] at key;have e1:(ps.map (·.2)).getD pp[i] []=ps[pp[i]].2:=by simp [a1]
   have e2:(ps.map (·.2)).getD pp[j] []=ps[pp[j]].2:=by simp [a2]
   rw [e1,e2] at key;have e3:ps.getD pp[i] (0,[])=ps[pp[i]]:=by simp [a1]
   have e4:ps.getD pp[j] (0,[])=ps[pp[j]]:=by simp [a2]
   rw [e3,e4];have:=rZ (rs:=ps.map (·.2)) (a:=ps[pp[j]].2) (b:=ps[pp[i]].2) (zK.mpr ⟨_,zx a2,rfl⟩);rw [<-this];simp only [decide_eq_false_iff_not];omega
end
end L2
namespace L2
open PySem PySem.Spec PyProof.Rows
def notStar:Expr->Bool
 | .Starred _ _=>false
 | _=>true
theorem kF {e:Expr}{es:List Expr}{env:Env}(h:notStar e=true):starEach (e::es) env=(false,eval e env)::starEach es env:=by cases e <;> first | rfl | cases h
@[irreducible] def Y3 (X:Cx) (es:List Expr) (t:TA):Prop:=PA X es t
theorem xu {X:Cx}{es:List Expr}{t:TA}(h:Y3 X es t):PA X es t:=by unfold Y3 at h;exact h
theorem WH {X:Cx}{es:List Expr}{t:TA}(h:PA X es t):Y3 X es t:=by unfold Y3;exact h
theorem wH {X:Cx}:Y3 X [] ku:=WH qP
theorem xv {X:Cx}{e:Expr}{es:List Expr}{te:TE}{t:TA}(ha:PE X e te)(hr:Y3 X es t)(hn:notStar e=true):Y3 X (e::es) (gO te t):=WH (VB ha (xu hr) (kF hn))
@[irreducible] def NZ (X:Cx) (es:List Stmt) (t:TS):Prop:=tE X es t
theorem xw {X:Cx}{es:List Stmt}{t:TS}(h:NZ X es t):tE X es t:=by unfold NZ at h;exact h
theorem Uj {X:Cx}{es:List Stmt}{t:TS}(h:tE X es t):NZ X es t:=by unfold NZ;exact h
theorem wN {X:Cx}{a:Stmt}{t:TS}(h:PS X a t):NZ X [a] t:=Uj (Vu h)
theorem wJ {X:Cx}{a b:Stmt}{rest:List Stmt}{t u:TS}(h:PS X a t)(hr:NZ X (b::rest) u):NZ X (a::b::rest) (jo t u):=Uj (SN h (xw hr))
section
variable {K:PySem.W.Frag}{a:Addr}{xs:List V}{n:Nat}{caps:List Nat}{g:TG}{tc:TT}{te:TE}{σ:St}{H:Hp}{Qf:Addr->Hp->List V->Prop}
theorem jS {J:It}(Pv:Nat->St->List V->Hp->Prop)(len:Nat)(h0:Pv 0 (dW n caps σ) [] H)(hn:len<=1000)(hl:∀ i τ acc H,Pv i τ acc H->acc.length<=i)
  (hgo:∀ i τ acc H,i < len->Pv i τ acc H->J.go i H) (TH:∀ τ acc H,Pv len τ acc H->J.stop len H)
  (hs:∀ i τ acc H (C:St->List V->Hp->Prop),i < len->Pv i τ acc H->(∀ τ acc H,Pv (i + 1) τ acc H->C τ acc H)->∀ x H',J.tG i H x H'->g x τ H' fun bR H2=>tc bR H2 λb H3=>if b=true then te bR H3 λy H4=>C bR (acc++[y]) H4 else C bR acc H3)
  (hd:∀ τ acc H,Pv len τ acc H->∀ p,H p=none->Qf p H acc) :
  ∃ W:Nat->Nat->St->List V->Hp->Prop,(∃ m,W 0 m (dW n caps σ) [] H)/\∀ i m τ acc H,W i m τ acc H ->
   (J.stop i H/\acc.length<=sizeLine/\∀ p,H p=none->Qf p H acc) \/
   (J.go i H/\acc.length < sizeLine/\∀ x H',J.tG i H x H'->g x τ H' fun bR H2=>tc bR H2 λb H3=>if b=true then te bR H3 λy H4=>∃ m',m' < m/\W (i + 1) m' bR (acc++[y]) H4 else ∃ m',m' < m/\W (i + 1) m' bR acc H3):=by
 have line:1001<=sizeLine:=by rw [sizeLine_eq];decide
 refine ⟨λi m τ acc H=>m=len - i/\i<=len/\Pv i τ acc H,⟨len,by simp,za _,h0⟩,?_⟩;rintro i m τ acc H ⟨rfl,hi,p⟩;have q:=hl i τ acc H p;by_cases c8:i < len
 ·exact .inr ⟨hgo i τ acc H c8 p,by omega,λx H' y=>hs i τ acc H (fun τ acc H=>∃ m',m' < len - i/\m'=len - (i + 1)/\i + 1<=len/\Pv (i + 1) τ acc H) c8 p (fun τ acc H p'=>⟨len - (i + 1),by omega,rfl,c8,p'⟩) x H' y⟩
 ·have e:i=len:=by omega
  subst e;exact .inl ⟨TH τ acc H p,by omega,hd τ acc H p⟩
theorem gW (Pv:Nat->St->List V->Hp->Prop)(h0:Pv 0 (dW n caps σ) [] H)(hn:xs.length<=1000)(hl:∀ i τ acc H,Pv i τ acc H->acc.length<=i/\bS K H a xs)
  (hs:∀ i x τ acc H (C:St->List V->Hp->Prop),xs[i]?=some x->Pv i τ acc H->(∀ τ acc H,Pv (i + 1) τ acc H->C τ acc H)->g x τ H fun bR H2=>tc bR H2 λb H3=>if b=true then te bR H3 λy H4=>C bR (acc++[y]) H4 else C bR acc H3)
  (hd:∀ τ acc H,Pv xs.length τ acc H->∀ p,H p=none->Qf p H acc) :
  ∃ W:Nat->Nat->St->List V->Hp->Prop,(∃ m,W 0 m (dW n caps σ) [] H)/\∀ i m τ acc H,W i m τ acc H ->
   ((Wu K a).stop i H/\acc.length<=sizeLine/\∀ p,H p=none->Qf p H acc) \/
   ((Wu K a).go i H/\acc.length < sizeLine/\∀ x H',(Wu K a).tG i H x H'->g x τ H' fun bR H2=>tc bR H2 λb H3=>if b=true then te bR H3 λy H4=>∃ m',m' < m/\W (i + 1) m' bR (acc++[y]) H4 else ∃ m',m' < m/\W (i + 1) m' bR acc H3):=
 jS (J:=Wu K a) Pv xs.length h0 hn (λi τ acc H p=>(hl i τ acc H p).1) (λi τ acc H hi p=>⟨xs,xs[i],(hl i τ acc H p).2,by simp [hi]⟩) (fun τ acc H p=>⟨xs,(hl _ τ acc H p).2,zD _⟩)
  (λi τ acc H C hi p c x H' y=>by obtain ⟨e,y⟩:=y;subst e;exact hs i x τ acc _ C (y xs (hl i τ acc _ p).2) p c) hd
theorem cU (Pv:Nat->St->List V->Hp->Prop)(h0:Pv 0 (dW n caps σ) [] H)(hn:xs.length<=1000)(hl:∀ i τ acc H,Pv i τ acc H->acc.length<=i/\aU K H a xs)
  (hs:∀ i x τ acc H (C:St->List V->Hp->Prop),xs[i]?=some x->Pv i τ acc H->(∀ τ acc H,Pv (i + 1) τ acc H->C τ acc H)->g x τ H fun bR H2=>tc bR H2 λb H3=>if b=true then te bR H3 λy H4=>C bR (acc++[y]) H4 else C bR acc H3)
  (hd:∀ τ acc H,Pv xs.length τ acc H->∀ p,H p=none->Qf p H acc) :
  ∃ W:Nat->Nat->St->List V->Hp->Prop,(∃ m,W 0 m (dW n caps σ) [] H)/\∀ i m τ acc H,W i m τ acc H ->
   ((RE K a).stop i H/\acc.length<=sizeLine/\∀ p,H p=none->Qf p H acc) \/
   ((RE K a).go i H/\acc.length < sizeLine/\∀ x H',(RE K a).tG i H x H'->g x τ H' fun bR H2=>tc bR H2 λb H3=>if b=true then te bR H3 λy H4=>∃ m',m' < m/\W (i + 1) m' bR (acc++[y]) H4 else ∃ m',m' < m/\W (i + 1) m' bR acc H3):=
 jS (J:=RE K a) Pv xs.length h0 hn (λi τ acc H p=>(hl i τ acc H p).1) (λi τ acc H hi p=>⟨xs,xs[i],(hl i τ acc H p).2,by simp [hi]⟩) (fun τ acc H p=>⟨xs,(hl _ τ acc H p).2,zD _⟩)
  (λi τ acc H C hi p c x H' y=>by obtain ⟨e,y⟩:=y;subst e;exact hs i x τ acc _ C (y xs (hl i τ acc _ p).2) p c) hd
theorem oZ (Pv:Nat->St->List V->Hp->Prop)(h0:Pv 0 (dW n caps σ) [] H)(hn:xs.length<=1000)(hl:∀ i τ acc H,Pv i τ acc H->acc.length<=i/\bS K H a xs)
  (hs:∀ i x q τ acc H (C:St->List V->Hp->Prop),xs[i]?=some x->H q=none->Pv i τ acc H->(∀ τ acc H,Pv (i + 1) τ acc H->C τ acc H)->g (.ref q) τ (upd H q (.tup [.int i,x])) fun bR H2=>tc bR H2 λb H3=>if b=true then te bR H3 λy H4=>C bR (acc++[y]) H4 else C bR acc H3)
  (hd:∀ τ acc H,Pv xs.length τ acc H->∀ p,H p=none->Qf p H acc) :
  ∃ W:Nat->Nat->St->List V->Hp->Prop,(∃ m,W 0 m (dW n caps σ) [] H)/\∀ i m τ acc H,W i m τ acc H ->
   ((u6 K a).stop i H/\acc.length<=sizeLine/\∀ p,H p=none->Qf p H acc) \/
   ((u6 K a).go i H/\acc.length < sizeLine/\∀ x H',(u6 K a).tG i H x H'->g x τ H' fun bR H2=>tc bR H2 λb H3=>if b=true then te bR H3 λy H4=>∃ m',m' < m/\W (i + 1) m' bR (acc++[y]) H4 else ∃ m',m' < m/\W (i + 1) m' bR acc H3):=
 jS (J:=u6 K a) Pv xs.length h0 hn (λi τ acc H p=>(hl i τ acc H p).1) (λi τ acc H hi p=>⟨xs,xs[i],(hl i τ acc H p).2,by simp [hi]⟩) (fun τ acc H p=>⟨xs,(hl _ τ acc H p).2,zD _⟩)
  (λi τ acc H C hi p c x H' y=>by obtain ⟨q,x',hq,e1,e2,y⟩:=y;subst e1;subst e2;exact hs i x' q τ acc _ C (y xs (hl i τ acc _ p).2) hq p c) hd
theorem Rn {tb:TS}{D:Ends}(Pv:Nat->St->Hp->Prop)(h0:Pv 0 σ H)(hl:∀ i σ H,i<=xs.length->Pv i σ H->bS K H a xs)
  (hs:∀ i x q σ H,xs[i]?=some x->H q=none->Pv i σ H->g (.ref q) σ (upd H q (.tup [.int i,x])) fun pR H2=>tb (D.lp (Pv (i + 1))) pR H2) (hd:∀ σ H,Pv xs.length σ H->D.nx σ H) :
  ∃ W:Nat->Nat->St->Hp->Prop,(∃ m,W 0 m σ H)/\∀ i m σ H,W i m σ H ->
   ((u6 K a).stop i H/\D.nx σ H)\/((u6 K a).go i H/\∃ N:St->Hp->Prop,(∀ cA H',N cA H'->∃ m',m' < m/\W (i + 1) m' cA H')/\∀ x H',(u6 K a).tG i H x H'->g x σ H' fun pR H2=>tb (D.lp N) pR H2):=by
 refine ⟨λi m σ H=>m=xs.length - i/\i<=xs.length/\Pv i σ H,⟨xs.length,by simp,za _,h0⟩,?_⟩;rintro i m σ H ⟨rfl,hi,p⟩;have q:=hl i σ H hi p;by_cases c8:i < xs.length
 ·refine .inr ⟨⟨xs,xs[i],q,by simp [c8]⟩,Pv (i + 1),fun cA H' p'=>⟨xs.length - (i + 1),by omega,rfl,c8,p'⟩,λx H' y=>?_⟩;obtain ⟨q',x',hq,e1,e2,y⟩:=y;subst e1;subst e2;exact hs i x' q' σ _ (y xs q) hq p
 ·have e:i=xs.length:=by omega
  subst e;exact .inl ⟨⟨xs,q,zD _⟩,hd σ H p⟩
theorem Ro {tb:TS}{D:Ends}(Pv:Nat->St->Hp->Prop)(h0:Pv 0 σ H)(hl:∀ i σ H,i<=xs.length->Pv i σ H->aU K H a xs)
  (hs:∀ i x q σ H,xs[i]?=some x->H q=none->Pv i σ H->g (.ref q) σ (upd H q (.tup [.int i,x])) fun pR H2=>tb (D.lp (Pv (i + 1))) pR H2) (hd:∀ σ H,Pv xs.length σ H->D.nx σ H) :
  ∃ W:Nat->Nat->St->Hp->Prop,(∃ m,W 0 m σ H)/\∀ i m σ H,W i m σ H ->
   ((u7 K a).stop i H/\D.nx σ H)\/((u7 K a).go i H/\∃ N:St->Hp->Prop,(∀ cA H',N cA H'->∃ m',m' < m/\W (i + 1) m' cA H')/\∀ x H',(u7 K a).tG i H x H'->g x σ H' fun pR H2=>tb (D.lp N) pR H2):=by
 refine ⟨λi m σ H=>m=xs.length - i/\i<=xs.length/\Pv i σ H,⟨xs.length,by simp,za _,h0⟩,?_⟩;rintro i m σ H ⟨rfl,hi,p⟩;have q:=hl i σ H hi p;by_cases c8:i < xs.length
 ·refine .inr ⟨⟨xs,xs[i],q,by simp [c8]⟩,Pv (i + 1),fun cA H' p'=>⟨xs.length - (i + 1),by omega,rfl,c8,p'⟩,λx H' y=>?_⟩;obtain ⟨q',x',hq,e1,e2,y⟩:=y;subst e1;subst e2;exact hs i x' q' σ _ (y xs q) hq p
 ·have e:i=xs.length:=by omega
  subst e;exact .inl ⟨⟨xs,q,zD _⟩,hd σ H p⟩
end
end L2
namespace Sm
open PySem L2 bh
def cL (p:Addr)(H H':Hp):Prop:=∀ b u,b≠p->H b=some u->H' b=some u
theorem cL.refl (p:Addr)(H:Hp):cL p H H:=λ_ _ _ h=>h
theorem cL.trans {p:Addr}{H H1 H2:Hp}(a:cL p H H1)(b:cL p H1 H2):cL p H H2:=λc u n h=>b c u n (a c u n h)
theorem cL.set {p:Addr}{H:Hp}{o:HO}:cL p H (upd H p o):=λb u n h=>by rw [wF n];exact h
theorem cL.new {p l:Addr}{H:Hp}{o:HO}(h:H l=none):cL p H (upd H l o):=λb u n e=>by rw [wF (wC e h)];exact e
noncomputable def bZ (H:Hp)(p:Addr):Prop:=∃ a b c:Int,H p=some (.lst [.int a,.int b,.int c])
def Go (p:Addr)(H H':Hp):Prop:=cL p H H'/\bZ H' p
theorem Go.trans {p:Addr}{H H1 H2:Hp}(a:Go p H H1)(b:Go p H1 H2):Go p H H2:=⟨a.1.trans b.1,b.2⟩
theorem Go.refl {p:Addr}{H:Hp}(a:bZ H p):Go p H H:=⟨cL.refl p H,a⟩
theorem bZ.new {p l:Addr}{H:Hp}{o:HO}(a:bZ H p)(h:H l=none):bZ (upd H l o) p:=by obtain ⟨x,y,z,e⟩:=a;exact ⟨x,y,z,by rw [wF (wC e h)];exact e⟩
theorem bZ.ne {p l:Addr}{H:Hp}(a:bZ H p)(h:H l=none):l≠p:=by obtain ⟨x,y,z,e⟩:=a;exact (wC e h).symm
theorem Go.new {p l:Addr}{H H1:Hp}{o:HO}(a:Go p H H1)(h:H1 l=none):Go p H (upd H1 l o):=⟨a.1.trans (cL.new h),a.2.new h⟩
theorem bZ.tup {p t:Addr}{H:Hp}{xs:List V}(a:bZ H p)(h:H t=some (.tup xs)):t≠p:=by obtain ⟨x,y,z,e⟩:=a;exact cZ h e (by intro z;cases z)
def bN (H H':Hp):Prop:=∀ b xs,H b=some (.tup xs)->H' b=some (.tup xs)
theorem bN.trans {H H1 H2:Hp}(a:bN H H1)(b:bN H1 H2):bN H H2:=λc u h=>b c u (a c u h)
theorem Go.br {p:Addr}{H H':Hp}(a:Go p H H')(h:bZ H p):bN H H':=λb xs e=>a.1 b _ (h.tup e) e
theorem bN.new {l:Addr}{H:Hp}{o:HO}(h:H l=none):bN H (upd H l o):=λb u e=>by rw [wF (wC e h)];exact e
theorem bN.set {l:Addr}{H:Hp}{xs:List V}{o:HO}(h:H l=some (.lst xs)):bN H (upd H l o):=λb u e=>by rw [wF (cZ e h (by intro z;cases z))];exact e
theorem bN.same {H H':Hp}(h:aG H H'):bN H H':=λb u e=>h b _ e
structure M4 where
 lo:Int
 hi:Int
 t:Int
 m:Int
def M4.vs (r:M4):List V:=[.int r.lo,.int r.hi,.int r.t,.int r.m]
def apart (a b:M4):Prop:=a.lo≠b.lo/\a.lo≠b.hi/\a.hi≠b.lo/\a.hi≠b.hi
structure Good (w:Int) (ms:List M4):Prop where
 gH:ms.length<=60
 each:∀ r∈ms,0<=r.lo/\r.lo < r.hi/\r.hi < w/\1<=r.t/\r.t<=1000000000/\1<=r.m/\r.m<=99
 order:ms.Pairwise λa b=>a.t < b.t\/(a.t=b.t/\a.lo < b.lo/\apart a b)
def dS (H:Hp)(ps:List (Addr×M4)):Prop:=∀ a∈ps,H a.1=some (.tup a.2.vs)
structure aO (H:Hp) (b:Addr) (aa:List Int) (tr tm:Addr) (ps:List (Addr×M4)):Prop where
 book:H b=some (.tup [.ref tr,.ref tm])
 aa:H tr=some (.tup (aa.map V.int))
 meets:H tm=some (.tup (ps.map λa=>V.ref a.1))
 rows:dS H ps
theorem dS.br {H H':Hp}{ps:List (Addr×M4)}(a:dS H ps)(t:bN H H'):dS H' ps:=λx hx=>t _ _ (a x hx)
theorem aO.br {H H':Hp}{b tr tm:Addr}{aa:List Int}{ps:List (Addr×M4)}(a:aO H b aa tr tm ps)(t:bN H H'):aO H' b aa tr tm ps:=
 ⟨t _ _ a.book,t _ _ a.aa,t _ _ a.meets,a.rows.br t⟩
noncomputable def U7 (K:PySem.W.Frag):Sp:=λvs H Q _=>∃ (a:Addr) (ns:List Int) (k:Nat),vs=[.ref a,.int k]/\aU K H a (ns.map V.int)/\k < 1000/\∀ p H',H p=none->bZ H' p->aG H H'->Q (.ref p) H'
noncomputable def Sf:Sp:=λvs H Q _=>∃ p n,vs=[.ref p,.int n]/\0 < n/\n < 2 ^ 200/\bZ H p/\∀ d H',0<=d->d < n->Go p H H'->Q (.int d) H'
noncomputable def ZQ:Sp:=λvs H Q _=>∃ p,vs=[.ref p]/\bZ H p/\∀ d H',0<=d->d<=1000000000->Go p H H'->Q (.int d) H'
noncomputable def Pr:Sp:=λvs H Q _=>∃ p,∃ n:Nat,vs=[.ref p,.int n]/\n<=1000/\bZ H p/\∀ (t:Addr) (aa:List Int) (H':Hp),Go p H H'->H' t=some (.tup (aa.map V.int))->aa.length=n->(∀ r∈aa,(0:Int)<=r/\r<=99)->Q (.ref t) H'
noncomputable def Xy:Sp:=λvs H Q _=>∃ p,vs=[.ref p]/\bZ H p/\∀ d H',0<=d->d<=16000000->Go p H H'->Q (.int d) H'
noncomputable def nC:Sp:=λvs H Q _=>∃ p,∃ w:Int,∃ n:Nat,vs=[.ref p,.int w,.int n]/\n<=60/\w < 1000/\(n=0\/2<=w)/\bZ H p /\
 ∀ (t:Addr) (ps:List (Addr×M4)) (H':Hp),Go p H H'->H' t=some (.tup (ps.map λa=>V.ref a.1))->dS H' ps->Good w (ps.map (·.2))->ps.length=n->Q (.ref t) H'
noncomputable def XE:Sp:=λvs H Q _=>∃ p,∃ a:Int,∃ n:Nat,vs=[.ref p,.int a,.int n]/\1<=a/\a<=100/\n<=60/\bZ H p /\
 ∀ (b:Addr) (aa:List Int) (tr tm:Addr) (ps:List (Addr×M4)) (H':Hp),Go p H H'->aO H' b aa tr tm ps->1<=aa.length->(aa.length:Int)<=a->(∀ r∈aa,(0:Int)<=r/\r<=99)->Good aa.length (ps.map (·.2))->ps.length<=n->Q (.ref b) H'
theorem dP {c A B:Prop}[Decidable c](h1:c->A)(h2:¬ c->B):if decide c=true then A else B:=by
 by_cases h:c
 ·rw [if_pos (decide_eq_true h)];exact h1 h
 ·rw [if_neg (by simpa using h)];exact h2 h
theorem aQ {c:Bool}{A B:Prop}(hc:c=false)(h:B):if c=true then A else B:=by rw [if_neg (by rw [hc];exact zP)];exact h
theorem bP {c:Bool}{A B:Prop}(hc:c=true)(h:A):if c=true then A else B:=by rw [if_pos hc];exact h
theorem kP {c:Bool}{A B:Prop}(h1:c=true->A)(h2:c=false->B):if c=true then A else B:=by
 cases c with
 | true=>exact h1 rfl
 | false=>exact h2 rfl
theorem Ym {c A B:Prop}[Decidable c](hc:c)(h:B):if (!decide c)=true then A else B:=aak hc h
theorem xx {H:Hp}{p:Addr}{o:HO}(h:H p=none):aG H (upd H p o):=λb u e=>by
 rw [wF (wC e h)];exact e
def M4.row (r:M4):List Int:=[r.t,r.lo,r.hi,r.m]
structure Y7 (w Wv:Int) (bs:List Int) (fs:List (Addr×M4)):Prop where
 each:∀ a∈fs,0<=a.2.lo/\a.2.lo < a.2.hi/\a.2.hi < w/\1<=a.2.t/\a.2.t<=Wv/\1<=a.2.m/\a.2.m<=99
 pw:fs.Pairwise λa b=>a.2.t=b.2.t->apart a.2 b.2
 bz:∀ a∈fs,a.2.t=Wv->a.2.lo∈bs/\a.2.hi∈bs
theorem Y7.step {w wh gap one other m:Int}{bs bs':List Int}{fs:List (Addr×M4)}{a:Addr}(F:Y7 w wh bs fs)(h1:1<=wh)(g0:0<=gap)(o0:0<=one)(o1:one < w)(p0:0<=other)(p1:other < w)(ne:one≠other)
  (m0:1<=m) (m1:m<=99) (hg:gap=0->one ∉ bs/\other ∉ bs) (hb:∀ x∈bs,gap=0->x∈bs') (lQ:one∈bs') (lP:other∈bs') :
  Y7 w (wh + gap) bs' (fs++[(a,⟨if other < one then other else one,if other > one then other else one,wh + gap,m⟩)]):=by
 refine ⟨λb hb=>?_,?_,λb hm e=>?_⟩
 ·rcases zW.mp hb with h | h
  ·obtain ⟨a1,a2,a3,a4,a5,a6,a7⟩:=F.each b h;exact ⟨a1,a2,a3,a4,by omega,a6,a7⟩
  ·cases zJ.mp h;by_cases c:other < one
   ·rw [if_pos c,if_neg (by omega)];exact ⟨p0,c,o1,by show 1<=wh + gap;omega,zb _,m0,m1⟩
   ·rw [if_neg c,if_pos (by omega)];exact ⟨o0,by show one < other;omega,p1,by show 1<=wh + gap;omega,zb _,m0,m1⟩
 ·rw [List.pairwise_append];refine ⟨F.pw,List.pairwise_singleton _ _,λb hb c hc e=>?_⟩;cases zJ.mp hc;have e':b.2.t=wh + gap:=e;obtain ⟨a1,a2,a3,a4,a5,a6,a7⟩:=F.each b hb;have g:gap=0:=by omega
  obtain ⟨x1,x2⟩:=F.bz b hb (by omega);obtain ⟨n1,n2⟩:=hg g;have q1:b.2.lo≠one:=λz=>n1 (z ▸ x1);have q2:b.2.lo≠other:=λz=>n2 (z ▸ x1);have q3:b.2.hi≠one:=λz=>n1 (z ▸ x2);have q4:b.2.hi≠other:=λz=>n2 (z ▸ x2);unfold apart;dsimp only;by_cases c:other < one
  ·rw [if_pos c,if_neg (by omega)];exact ⟨q2,q1,q4,q3⟩
  ·rw [if_neg c,if_pos (by omega)];exact ⟨q1,q2,q3,q4⟩
 ·rcases zW.mp hm with h | h
  ·obtain ⟨a1,a2,a3,a4,a5,a6,a7⟩:=F.each b h;obtain ⟨x1,x2⟩:=F.bz b h (by omega);exact ⟨hb _ x1 (by omega),hb _ x2 (by omega)⟩
  ·cases zJ.mp h;by_cases c:other < one
   ·rw [if_pos c,if_neg (by omega)];exact ⟨lP,lQ⟩
   ·rw [if_neg c,if_pos (by omega)];exact ⟨lQ,lP⟩
def M4.jJ (l:Int)(r:M4):M4:=⟨r.lo,r.hi,r.t + l,r.m⟩
theorem Y7.good {w wh l:Int}{bs:List Int}{fs qs:List (Addr×M4)}(F:Y7 w wh bs fs)(n:fs.length<=60)(l0:0<=l)(l1:fs≠[]->wh + l<=1000000000)(p:qs.Perm fs)(s:qs.Pairwise λa b=>lx b.2.row a.2.row=false) :
  Good w (qs.map λa=>a.2.jJ l):=by
 refine ⟨by rw [zA,p.length_eq];exact n,λr hr=>?_,?_⟩
 ·obtain ⟨a,ha,rfl⟩:=zK.mp hr;have hm:=p.mem_iff.mp ha;obtain ⟨a1,a2,a3,a4,a5,a6,a7⟩:=F.each a hm;have:=l1 (List.ne_nil_of_mem hm);unfold M4.jJ;exact ⟨a1,a2,a3,by show 1<=a.2.t + l;omega,by show a.2.t + l<=1000000000;omega,a6,a7⟩
 ·rw [yO];have ap:qs.Pairwise λa b=>a.2.t=b.2.t->apart a.2 b.2:=(List.Perm.pairwise_iff (λ{x y} h e=>by
   obtain ⟨a1,a2,a3,a4⟩:=h e.symm;exact ⟨a1.symm,a3.symm,a2.symm,a4.symm⟩) p).mpr F.pw
  refine (s.and ap).imp λ{a b} ⟨h1,h2⟩=>?_;unfold M4.jJ;dsimp only;unfold M4.row lx at h1;by_cases e:a.2.t=b.2.t
  ·have q:=h2 e;rw [if_pos e.symm] at h1;unfold lx at h1;rw [if_neg λz=>q.1 z.symm] at h1;simp only [decide_eq_false_iff_not] at h1;refine .inr ⟨by omega,?_,q⟩;have:=q.1;omega
  ·rw [if_neg λz=>e z.symm] at h1;simp only [decide_eq_false_iff_not] at h1;exact .inl (by omega)
def Xo (r:List Int):M4:=⟨r.getD 1 0,r.getD 2 0,r.getD 0 0,r.getD 3 0⟩
theorem rX {fs:List (Addr×M4)}{qs:List (Addr×List Int)}(p:qs.Perm (fs.map λa=>(a.1,a.2.row)))(s:qs.Pairwise λa b=>lx b.2 a.2=false) :
  ∃ rs:List (Addr×M4),rs.Perm fs/\(rs.Pairwise λa b=>lx b.2.row a.2.row=false)/\qs=rs.map λa=>(a.1,a.2.row):=by
 have e:qs=(qs.map λa=>(a.1,Xo a.2)).map λa=>(a.1,a.2.row):=by
  rw [zo];refine (xp qs).symm.trans (yH λx hx=>?_);obtain ⟨a,_,rfl⟩:=zK.mp (p.mem_iff.mp hx);rfl
 refine ⟨qs.map λa=>(a.1,Xo a.2),?_,?_,e⟩
 ·have:=p.map λa=>(a.1,Xo a.2);rw [zo] at this;refine this.trans (.of_eq ?_);refine (yH λx _=>?_).trans (xp fs);rfl
 ·rw [e,yO] at s;exact s
theorem sO (bs:List Int):(bs.map V.int).all cG=true:=by rw [yM];intro x hx;obtain ⟨b,_,rfl⟩:=zK.mp hx;rfl
theorem Ng {x:Int}{bs:List Int}:WL (.int x) (bs.map V.int)=decide (x∈bs):=by
 unfold WL;induction bs with
 | nil=>rfl
 | cons b bs ih=>
  rw [zc,xh,ih];by_cases h:x=b
  ·subst h;simp [sQ]
  ·have h':¬ b=x:=λz=>h z.symm;simp [sQ,h,h']
noncomputable def PvM (p lf:Addr)(w:Int)(n:Nat)(H:Hp)(i:Nat)(σ:St)(H3:Hp):Prop:=
 ∃ v6 v7 v8 v9 v10 wh lb bs,∃ fs:List (Addr×M4),σ=[some (.ref p),some (.int w),some (.int n),some (.ref lf),some (.int wh),some (.ref lb),v6,v7,v8,v9,v10,none] /\
  H3 lf=some (.lst (fs.map λa=>V.ref a.1))/\H3 lb=some (.lst (List.map V.int bs))/\lb≠lf/\lb≠p/\(∀ a∈fs,H3 a.1=some (.tup (a.2.row.map V.int)))/\Y7 w wh bs fs/\fs.length=i/\bs.length<=2 * i/\1<=wh/\wh<=10000000 + 16000000 * i/\Go p H H3
theorem PvM.step {p lf lb t:Addr}{w wh gap one other m:Int}{n i:Nat}{H Hx:Hp}{bs bs':List Int}{fs:List (Addr×M4)}{v6 v7 v8 v9 v10:Option V}(Uz:lf≠p)(VZ:H lf=none)
  (F:Y7 w wh bs fs) (Ti:fs.length=i) (Yd:bs'.length<=2 * i + 2) (wh1:1<=wh) (wh2:wh<=10000000 + 16000000 * i) (hf:Hx lf=some (.lst (fs.map λa=>V.ref a.1))) (hb:Hx lb=some (.lst (List.map V.int bs'))) (nb:lb≠lf) (nbp:lb≠p)
  (rows:∀ a∈fs,Hx a.1=some (.tup (a.2.row.map V.int))) (go:Go p H Hx) (ht:Hx t=none)
  (g0:0<=gap) (g1:gap<=16000000) (o0:0<=one) (o1:one < w) (p0:0<=other) (p1:other < w) (ne:one≠other) (m0:1<=m) (m1:m<=99) (hg:gap=0->one ∉ bs/\other ∉ bs) (V6:∀ x∈bs,gap=0->x∈bs') (lQ:one∈bs') (lP:other∈bs') :
  PvM p lf w n H (i + 1) [some (.ref p),some (.int w),some (.int n),some (.ref lf),some (.int (wh + gap)),some (.ref lb),v6,v7,v8,v9,v10,none]
   (upd (upd Hx t (.tup [.int (wh + gap),.int (if other < one then other else one),.int (if other > one then other else one),.int m])) lf (.lst ((fs.map λa=>V.ref a.1)++[.ref t]))):=by
 have ntf:t≠lf:=(wC hf ht).symm;refine ⟨v6,v7,v8,v9,v10,wh + gap,lb,bs',fs++[(t,⟨if other < one then other else one,if other > one then other else one,wh + gap,m⟩)],rfl,by rw [xq,zE];rfl,?_,nb,nbp,λa ha=>?_,F.step wh1 g0 o0 o1 p0 p1 ne m0 m1 hg V6 lQ lP,by rw [zG,Ti];rfl,by omega,by omega,by omega,λb u nb e=>?_,?_⟩
 ·rw [wF nb,wF (wC hb ht)];exact hb
 ·rcases zW.mp ha with h | h
  ·have:=rows a h;rw [wF (cZ this hf (by intro z;cases z)),wF (wC this ht)];exact this
  ·cases zJ.mp h;rw [wF ntf,xq];rfl
 ·rw [wF (wC e VZ),wF (wC (go.1 b u nb e) ht)];exact go.1 b u nb e
 ·have:=go.2.new (o:=.tup [.int (wh + gap),.int (if other < one then other else one),.int (if other > one then other else one),.int m]) ht;obtain ⟨x,y,z,e⟩:=this;exact ⟨x,y,z,by rw [wF Uz.symm];exact e⟩
theorem XR {one x w:Int}(o0:0<=one)(o1:one < w)(x0:0<=x)(x1:x < w - 1):0<=(one + 1 + x) % w/\(one + 1 + x) % w < w/\one≠(one + 1 + x) % w:=by
 refine ⟨xC _ (by omega),yl _ (by omega),?_⟩;by_cases h:one + 1 + x < w
 ·rw [Int.emod_eq_of_lt (by omega) h];omega
 ·have e:(one + 1 + x) % w=(one + 1 + x - w) % w:=by
   have:one + 1 + x=(one + 1 + x - w) + w:=by omega
   rw [this,Int.add_emod_right];congr 1;omega
  rw [e,Int.emod_eq_of_lt (by omega) (by omega)];omega
theorem Go.same {p:Addr}{H H1 H2:Hp}(a:Go p H H1)(s:aG H1 H2):Go p H H2:=⟨λb u n e=>s b u (a.1 b u n e),by obtain ⟨x,y,z,e⟩:=a.2;exact ⟨x,y,z,s _ _ e⟩⟩
theorem wY {α:Type}{f:α->V}{l:List α}{i:Nat}{x:V}(h:(l.map f)[i]?=some x):∃ r,l[i]?=some r/\x=f r:=by
 rw [zS] at h;cases e:l[i]? with
 | none=>rw [e] at h;cases h
 | some r=>rw [e] at h;exact ⟨r,rfl,(Option.some.inj h).symm⟩
theorem we {α:Type}{l:List α}{i:Nat}{r:α}(h:l[i]?=some r):l.take (i + 1)=l.take i++[r]:=by rw [List.take_add_one,h];rfl
theorem cL.same {p:Addr}{H H1 H2:Hp}(hp:H p=none)(s:aG H H1)(g:cL p H1 H2):aG H H2:=λb u e=>g b u (wC e hp) (s b u e)
theorem aG.put {l:Addr}{H H':Hp}{o:HO}(h:H l=none)(s:aG H H'):aG H (upd H' l o):=λb u e=>by rw [wF (wC e h)];exact s b u e
theorem aO.same {H H':Hp}{b tr tm:Addr}{aa:List Int}{ps:List (Addr×M4)}(a:aO H b aa tr tm ps)(t:aG H H'):aO H' b aa tr tm ps:=a.br (bN.same t)
theorem Pe {H:Hp}{l:Addr}{xs:List V}(h:H l=some (.lst xs)):pT H (.ref l)=some "list" := by simp only [pT,h]
def U1:Sp:=λvs H Q _=>∃ x t,vs=[x]/\pT H x=some t/\Q (.bl (t == "int")) H
noncomputable def j3 (lo hi:Int):V->Bool
 | .int i=>decide (lo<=i) && decide (i<=hi)
 | _=>false
noncomputable def Sd:Sp:=λvs H Q _=>∃ x t lo hi,vs=[x,.int lo,.int hi]/\pT H x=some t/\Q (.bl (j3 lo hi x)) H
noncomputable def Xw:Sp:=λvs H Q _=>∃ x t,vs=[x]/\pT H x=some t/\Q (.bl (j3 0 1000000000 x)) H
theorem UO {H:Hp}{x:V}(h:pT H x=some "int"):∃ i,x=.int i:=by
 cases x with
 | int i=>exact ⟨i,rfl⟩
 | ref a=>
  unfold pT at h;dsimp only at h;split at h <;> simp at h
 | _=>simp [pT] at h
theorem Yo {H:Hp}{x:V}{t:String}{lo hi:Int}(h:pT H x=some t)(n:¬ t = "int"):j3 lo hi x=false:=by
 cases x with
 | int i=>simp [pT] at h;exact absurd h.symm n
 | _=>rfl
def adA (w:Int)(r:M4):Bool:=decide (r.lo=w) || decide (r.hi=w)
noncomputable def numsTo (ms:List M4)(w:Int):Nat->List Int
 | 0=>[]
 | i + 1=>numsTo ms w i++(if (ms[i]?).any (adA w)=true then [(i:Int)] else [])
def cnt (ms:List M4)(t:Int):Nat:=(ms.filter λr=>decide (r.t<=t)).length
theorem ND {ms:List M4}{t:Int}{i:Nat}{r:M4}(h:ms[i]?=some r):cnt (ms.take (i + 1)) t=cnt (ms.take i) t + (if r.t<=t then 1 else 0):=by unfold cnt;rw [we h,List.filter_append,zG];congr 1;by_cases c:r.t<=t <;> simp [c]
noncomputable def Sq:Sp:=λvs H Q _=>∃ b t aa tr tm ps,vs=[.ref b,.int t]/\aO H b aa tr tm ps/\ps.length<=1000/\∀ H',aG H H'->Q (.int (cnt (ps.map (·.2)) t)) H'
noncomputable def nB:Sp:=λvs H Q _=>∃ p b j aa tr tm ps,vs=[.ref p,.ref b,.int j]/\(j=0\/j=1)/\aO H b aa tr tm ps/\Good aa.length (ps.map (·.2))/\bZ H p/\∀ d H',0<=d->d<=1000000000->Go p H H'->Q (.int d) H'
noncomputable def Sk:Sp:=λvs H Q _=>∃ p b aa tr tm ps,vs=[.ref p,.ref b]/\aO H b aa tr tm ps/\1<=aa.length/\aa.length<=1000/\Good aa.length (ps.map (·.2))/\bZ H p /\
 ∀ t (s a w z:Int) H',Go p H H'->H' t=some (.tup [.int s,.int a,.int w,.int z])->0<=s->s < aa.length->0<=w->w < aa.length->0<=a->a<=1000000000->0<=z->z<=1000000000->Q (.ref t) H'
theorem Good.len {w:Int}{ps:List (Addr×M4)}(g:Good w (ps.map (·.2))):ps.length<=60:=by simpa using g.gH
theorem Good.at {w:Int}{ps:List (Addr×M4)}(g:Good w (ps.map (·.2))){r:Addr×M4}(h:r∈ps):0<=r.2.lo/\r.2.lo < r.2.hi/\r.2.hi < w/\1<=r.2.t/\r.2.t<=1000000000/\1<=r.2.m/\r.2.m<=99:=g.each _ (zK.mpr ⟨r,h,rfl⟩)
end Sm
namespace L2
open PySem PySem.Spec PyProof.Rows
section
variable {X:Cx}
def oV:Option Int->V
 | none=>.bL
 | some i=>.int i
theorem PV (o:Option Int):cG (oV o)=true:=by cases o <;> rfl
theorem Z5 (a b:Option Int):sQ (oV a) (oV b)=decide (a=b):=by cases a <;> cases b <;> simp [oV,sQ];rfl
theorem all_range {n:Nat}{e:Nat->Bool}{b:Bool}(h:(∀ j,j < n->e j=true)↔b=true):(List.range n).all e=b:=by
 cases b with
 | true=>rw [yM];intro j hj;exact h.mpr rfl j (zh.mp hj)
 | false=>
  cases c:(List.range n).all e with
  | false=>rfl
  | true=>exact absurd (h.mp λj hj=>yM.mp c j (zh.mpr hj)) (by simp)
theorem Rt {A:Around}{s:Shared}{os ps:List (Option Int)}{us ws:List Value}(r:Vals (os.map oV) us)(r2:Vals (ps.map oV) ws)(hl:us.length=ws.length) :
  (∀ j (h1:j < us.toArray.size) (h2:j < ws.toArray.size),SeqAt.EqAt A s us.toArray[j] ws.toArray[j] (decide (os[j]?=ps[j]?)))/\(List.range us.toArray.size).all (λj=>decide (os[j]?=ps[j]?))=decide (os=ps):=by
 have l1:os.length=us.length:=by have:=r.length;simpa using this
 have l2:ps.length=ws.length:=by have:=r2.length;simpa using this
 refine ⟨λj h1 h2=>?_,all_range ?_⟩
 ·simp only [zR] at h1 h2;have a1:j < os.length:=by omega
  have a2:j < ps.length:=by omega
  obtain ⟨u,eu,ru⟩:=r.get (i:=j) (x:=oV os[j]) (by simp [a1]);obtain ⟨w,ew,rT⟩:=r2.get (i:=j) (x:=oV ps[j]) (by simp [a2]);have e1:us.toArray[j]=u:=by rw [List.getElem_toArray];exact Option.some.inj ((zO h1).symm.trans eu)
  have e2:ws.toArray[j]=w:=by rw [List.getElem_toArray];exact Option.some.inj ((zO h2).symm.trans ew)
  rw [e1,e2];have:=O0 (A:=A) (s:=s) ru rT (PV _) (PV _);rw [Z5] at this;simpa [a1,a2] using this
 ·simp only [zR,decide_eq_true_eq];constructor
  ·intro h;apply List.ext_getElem?
   intro j;by_cases hj:j < us.length
   ·exact h j hj
   ·rw [yZ (by omega),yZ (by omega)]
  ·rintro rfl j _;rfl
theorem XU (hu:X.A.units + 64 < cLine):gI X (compareOp .NotEq) (λx y H Q=>∃ (a b:Addr) (os ps:List (Option Int)),x=.ref a/\y=.ref b/\aU X.K H a (os.map oV)/\aU X.K H b (ps.map oV)/\Q (.bl (!decide (os=ps))) H):=by
 intro af s σ H x y v u Q I rx ry h;obtain ⟨a,b,os,ps,rfl,rfl,ha,hb,q⟩:=h;cases rx;cases ry;obtain ⟨aH,r,p,_⟩:=I.list ha;obtain ⟨dO,r2,p2,_⟩:=I.list hb;have l1:os.length=aH.length:=by have:=r.length;simpa using this
 have l2:ps.length=dO.length:=by have:=r2.length;simpa using this
 by_cases hl:aH.length=dO.length
 ·obtain ⟨e1,e2⟩:=Rt (A:=X.A.in1) (s:=s) r r2 hl;exact SeqAt.RcNeAt.lists p.isList p2.isList (by simpa using hl) (by omega) e1 _ _ _ _ ⟨.bl _,H,I,by rw [e2];rfl,q⟩
 ·have e:decide (os=ps)=false:=by
   rw [decide_eq_false_iff_not];rintro rfl;omega
  rw [e] at q;exact SeqAt.RcNeAt.lists_lengths p.isList p2.isList (by simpa using hl) (by omega) _ _ _ _ ⟨.bl _,H,I,rfl,q⟩
end
end L2
namespace Sm
open PySem L2 bh
noncomputable def Th (H:Hp)(x:V)(r:Option (List V)):Prop:=
 (∃ t,pT H x=some t/\t ≠ "tuple" /\ r=none)\/(∃ a xs,x=.ref a/\H a=some (.tup xs)/\(∀ e∈xs,∃ t,pT H e=some t)/\r=some xs)
noncomputable def isLet (w:Int):Option (List V)->Bool
 | some [a,b,c,d]=>j3 0 (w - 1) a && (j3 0 1000000000 b && (j3 0 (w - 1) c && j3 0 1000000000 d))
 | _=>false
noncomputable def Oi:Sp:=λvs H Q _=>∃ b x t aa tr tm ps,vs=[.ref b,x]/\aO H b aa tr tm ps/\pT H x=some t/\Q (.bl (j3 0 ((aa.length:Int) - 1) x)) H
noncomputable def Ol:Sp:=λvs H Q _=>∃ b x r aa tr tm ps,vs=[.ref b,x]/\aO H b aa tr tm ps/\Th H x r/\Q (.bl (isLet aa.length r)) H
theorem Pd {H:Hp}{l:Addr}{xs:List V}(h:H l=some (.tup xs)):pT H (.ref l)=some "tuple" := by simp only [pT,h]
theorem eG {n k:Nat}(h:k < n):Q8 n (k:Int)=some k:=by unfold Q8;rw [if_pos (by omega),if_pos (by omega)];simp
end Sm
namespace L2
open PySem PySem.Spec PyProof.Rows
theorem PN {α:Type}(l:List α):∀ n,n<=l.length->(List.range n).filterMap (λk=>l[k]?)=l.take n
 | 0,_=>by simp
 | n + 1,h=>by
  have hn:n < l.length:=h;rw [yj,List.filterMap_append,PN l n (by omega),List.take_add_one];simp [hn]
theorem Nr {α β:Type}{f g:α->Option β}:∀ {l:List α},(∀ x∈l,f x=g x)->l.filterMap f=l.filterMap g
 | [],_=>rfl
 | x::l,h=>by
  rw [xI,xI,h x (.head _),Nr λy hy=>h y (.tail _ hy)]
theorem SI {α:Type}(l:List α):((List.range l.length).map λk:Nat=>((l.length:Int) - 1 + -1 * (k:Int)).toNat).filterMap (λj=>l.toArray[j]?)=l.reverse:=by
 rw [List.filterMap_map];have h:=PN l.reverse l.length (by simp);rw [show l.reverse.take l.length=l.reverse from by rw [<-yh];exact zq] at h;rw [<-h];refine Nr λk hk=>?_;have UD:=zh.mp hk;have e:((l.length:Int) - 1 + -1 * (k:Int)).toNat=l.length - 1 - k:=by omega
 show l.toArray[((l.length:Int) - 1 + -1 * (k:Int)).toNat]?=_;rw [e,List.getElem?_reverse UD];simp
theorem pW (aH:List Value):slicePick aH.toArray none none (some (-1))=aH.reverse.toArray:=by
 unfold slicePick;have e:sliceBounds none none (some (-1)) aH.toArray.size=((aH.length:Int) - 1,-1,-1):=by
  unfold sliceBounds;simp
 rw [e];have r:sliceRange ((aH.length:Int) - 1) (-1) (-1)=(List.range aH.length).map λk:Nat=>((aH.length:Int) - 1 + -1 * (k:Int)).toNat:=by
  unfold sliceRange;have c:(if (-1:Int) > 0 then (if (aH.length:Int) - 1 < -1 then (-1 - ((aH.length:Int) - 1) + -1 - 1) / -1 else 0) else (if (aH.length:Int) - 1 > -1 then ((aH.length:Int) - 1 - -1 - -1 - 1) / (- -1) else 0))=(aH.length:Int):=by
   rw [if_neg (by decide)];have e1:(- -1:Int)=1:=by decide
   rw [e1,Int.ediv_one];split <;> omega
  simp only [c];simp
 rw [r];exact congrArg List.toArray (SI aH)
section
variable {X:Cx}{e:Expr}{te:TE} {pos p2 p3 p4:Pos}{j:Nat}
noncomputable def ZE (K:PySem.W.Frag)(te:TE):TE:=fun σ H Q=>te σ H λx H1=>∃ a xs,x=.ref a/\aU K H1 a xs/\∀ p,H1 p=none->Q (.ref p) (upd H1 p (.lst xs.reverse))
theorem mJ {K:PySem.W.Frag}(hK:X.K=K)(he:PE X e te):PE X (.Subscript e (.Slice none none (some (.UnaryOp .USub (.Constant (.int 1) j p4) p3)) p2) pos) (ZE K te):=by subst hK;intro af s σ H Q I h;refine Subscript_ (bG (he af s σ H _ I h) λv s1 ⟨x,H1,I1,r1,q1⟩=>?_);have st:PO X (some (.UnaryOp .USub (.Constant (.int 1) j p4) p3)) (iO (Ux (rU λi=>.int (-i)) (tC (.int 1)))):=jE (SR N9 xy);refine wpAny_Slice ?_;rw [evalPart_none];refine wpAny_pure (wpAny_pure ?_);refine bG (st af s1 σ H1 (λo H'=>o=some (-1)/\H'=H1) I1 ⟨1,rfl,-1,rfl,rfl,rfl⟩) λvs s3 h3=>?_;obtain ⟨o,H',I3,ps,rfl,rfl⟩:=h3;have I4:Inv X af σ H' { s3 with heap:=s3.heap.push { cls:=.type "slice", data:=.fields #[.none,.none,vs] } }:=I3.kept (t':=s3.toks) λb ob q=>Heap.get?_push_of_some _ q;obtain ⟨a,xs,rfl,hx,q⟩:=q1;cases r1;obtain ⟨aH,r,ht,hz⟩:=I4.list hx;have hlen:=r.length;show wpAny (model X.prog X.w) X.A (subscriptTail e (.Slice none none (some (.UnaryOp .USub (.Constant (.int 1) j p4) p3)) p2) (.ref a) (.ref s3.heap.objs.size)) (EP X af σ Q) X.xe { s3 with heap:=s3.heap.push { cls:=.type "slice", data:=.fields #[.none,.none,vs] } };refine tail_any (ops:=[.ref a,.ref s3.heap.objs.size]) ht.isList.typeIs slot_list_getitem.lookup ?_ (by with_unfolding_all rfl);refine wpAny_getItem_list_slice ht.isList (Heap.IsSliceOf.new ..) .none .none ps (by simp) ?_ (by rw [zR] <;> omega);rw [pW];refine ⟨.ref _,_,I4.laid (t':=s3.toks) (o:=.lst xs.reverse) (λb ob q=>Heap.get?_push_of_some _ q) (zD _) ?_,rfl,q _ (I4.bF.fresh (zD _))⟩;exact ⟨by rw [yh];exact hz,_,0,r.reverse,Heap.get?_push_size _ rfl⟩
end
end L2
namespace Sm
open PySem L2 bh
abbrev Fn:=Nat->Option Int
def put (f:Fn)(k:Nat)(x:Option Int):Fn:=λi=>if i=k then x else f i
theorem wo {f:Fn}{k:Nat}{x:Option Int}:put f k x k=x:=by unfold put;rw [if_pos rfl]
theorem qO {f:Fn}{k i:Nat}{x:Option Int}(h:i≠k):put f k x i=f i:=by unfold put;rw [if_neg h]
def aE (k:Nat)(x:Int):Fn:=λi=>if i=k then some x else none
noncomputable def below (o:Option Int)(t:Int):Bool:=match o with
 | some y=>decide (y < t)
 | none=>false
noncomputable def gT (o:Option Int)(t:Int):Bool:=match o with
 | some y=>decide (t<=y)
 | none=>false
theorem aJ {o:Option Int}{t:Int}:below o t=true↔∃ y,o=some y/\y < t:=by cases o <;> simp [below]
theorem dR {o:Option Int}{t:Int}:gT o t=true↔∃ y,o=some y/\t<=y:=by cases o <;> simp [gT]
noncomputable def aY (o:Option Int)(t:Int):Bool:=match o with
 | some y=>decide (y<=t)
 | none=>false
theorem aL {o:Option Int}{t:Int}:aY o t=true↔∃ y,o=some y/\y<=t:=by cases o <;> simp [aY]
structure W3 where
 g:Nat
 o:Nat
 t:Int
def two (m:M4):List W3:=[⟨m.lo.toNat,m.hi.toNat,m.t⟩,⟨m.hi.toNat,m.lo.toNat,m.t⟩]
def aI (ms:List M4):List W3:=ms.flatMap two
noncomputable def aK (st:Fn)(x:W3):Fn:=if st x.o=none/\below (st x.g) x.t=true then put st x.o (some x.t) else st
noncomputable def bU (lf:Fn)(x:W3):Fn:=if lf x.g=none/\gT (lf x.o) x.t=true then put lf x.g (some (x.t - 1)) else lf
def fwd (ms:List M4)(st:Fn):Fn:=(aI ms).foldl aK st
noncomputable def bwd (ms:List M4)(bV:Nat)(last:Int):Fn:=(aI ms).reverse.foldl bU (aE bV last)
theorem T5 (m:M4)(ms:List M4)(st:Fn):fwd (m::ms) st=fwd ms (aK (aK st ⟨m.lo.toNat,m.hi.toNat,m.t⟩) ⟨m.hi.toNat,m.lo.toNat,m.t⟩):=by unfold fwd aI;rw [List.flatMap_cons,yP];rfl
theorem NO (m:M4)(ms:List M4)(bV:Nat)(last:Int):bwd (m::ms) bV last=bU (bU (bwd ms bV last) ⟨m.hi.toNat,m.lo.toNat,m.t⟩) ⟨m.lo.toNat,m.hi.toNat,m.t⟩:=by unfold bwd aI;rw [List.flatMap_cons,List.reverse_append,yP];rfl
theorem qW {st:Fn}{x:W3}{i:Nat}{y:Int}(h:st i=some y):aK st x i=some y:=by
 unfold aK;split
 ·rename_i c;by_cases e:i=x.o
  ·rw [e,c.1] at h;cases h
  ·rw [qO e];exact h
 ·exact h
theorem Pc {st lf:Fn}{x:W3}{bV:Nat}{last:Int}(hw:lf bV=some last)(hl:∀ i y,lf i=some y->y<=last/\(i=bV\/x.t - 1<=y))
  (hs:∀ i y,st i=some y->y<=x.t\/∀ j,st j≠none->j=i) (ne:x.g≠x.o) :
  (∃ i a b,aK st x i=some a/\lf i=some b/\a<=b)↔(∃ i a b,st i=some a/\bU lf x i=some b/\a<=b):=by
 constructor
 ·rintro ⟨i,a,b,h1,h2,h3⟩;have keep:∀ j z,lf j=some z->bU lf x j=some z:=λj z h=>by
   unfold bU;split
   ·rename_i c;rw [qO λe=>by rw [e,c.1] at h;cases h];exact h
   ·exact h
  unfold aK at h1;split at h1
  ·rename_i c;by_cases e:i=x.o
   ·subst e;rw [wo] at h1;cases h1;obtain ⟨y,hy,ylt⟩:=aJ.mp c.2;cases hg:lf x.g with
    | none=>
     refine ⟨x.g,y,x.t - 1,hy,?_,by omega⟩;unfold bU;rw [if_pos ⟨hg,dR.mpr ⟨b,h2,h3⟩⟩,wo]
    | some z=>
     refine ⟨x.g,y,z,hy,keep _ _ hg,?_⟩;rcases (hl _ _ hg).2 with e | e
     ·rw [e,hw] at hg;cases hg;have:=(hl _ _ h2).1;omega
     ·omega
   ·rw [qO e] at h1;exact ⟨i,a,b,h1,keep _ _ h2,h3⟩
  ·exact ⟨i,a,b,h1,keep _ _ h2,h3⟩
 ·rintro ⟨i,a,b,h1,h2,h3⟩;unfold bU at h2;split at h2
  ·rename_i c;by_cases e:i=x.g
   ·subst e;rw [wo] at h2;cases h2;obtain ⟨y,hy,ylt⟩:=dR.mp c.2;cases ho:st x.o with
    | none=>
     refine ⟨x.o,x.t,y,?_,hy,ylt⟩;unfold aK;rw [if_pos ⟨ho,aJ.mpr ⟨a,h1,by omega⟩⟩,wo]
    | some z=>
     refine ⟨x.o,z,y,qW ho,hy,?_⟩;rcases hs _ _ ho with e | e
     ·omega
     ·exact absurd (e x.g (by rw [h1];simp)) ne
   ·rw [qO e] at h2;exact ⟨i,a,b,qW h1,h2,h3⟩
  ·exact ⟨i,a,b,qW h1,h2,h3⟩
theorem kZ {lf:Fn}{x:W3}{bV:Nat}{last:Int}(hw:lf bV=some last)(hl:∀ i y,lf i=some y->y<=last/\(i=bV\/x.t - 1<=y)) :
  bU lf x bV=some last/\∀ i y,bU lf x i=some y->y<=last/\(i=bV\/x.t - 1<=y):=by
 unfold bU;split
 ·rename_i c;obtain ⟨z,hz,zt⟩:=dR.mp c.2;refine ⟨by rw [qO λe=>by rw [<-e,hw] at c;cases c.1];exact hw,λi y h=>?_⟩;by_cases e:i=x.g
  ·rw [e,wo] at h;cases h;have:=(hl _ _ hz).1;exact ⟨by omega,.inr (by omega)⟩
  ·rw [qO e] at h;exact hl i y h
 ·exact ⟨hw,hl⟩
theorem kW {st:Fn}{x:W3}(hs:∀ i y,st i=some y->y<=x.t\/∀ j,st j≠none->j=i)(ve:x.g≠x.o):∀ i y,aK st x i=some y->y<=x.t\/∀ j,aK st x j≠none->j=i:=by
 unfold aK;split
 ·rename_i c;obtain ⟨z,hz,zt⟩:=aJ.mp c.2;intro i y h;by_cases e:i=x.o
  ·rw [e,wo] at h;cases h;exact .inl (zb _)
  ·rw [qO e] at h;rcases hs i y h with q | q
   ·exact .inl q
   ·have:x.g=i:=q x.g (by rw [hz];simp);rw [<-this,hz] at h;cases h;exact .inl (by omega)
 ·exact hs
noncomputable def Ord (t:Int)(ms:List M4):Prop:=(∀ m∈ms,t<=m.t/\m.lo.toNat≠m.hi.toNat)/\ms.Pairwise λa b=>a.t<=b.t
theorem uS {bV:Nat}{last:Int}:∀ {ms:List M4}{t:Int},Ord t ms->bwd ms bV last bV=some last/\∀ i y,bwd ms bV last i=some y->y<=last/\(i=bV\/t - 1<=y)
 | [],t,_=>by
  refine ⟨by simp [bwd,aI,aE],λi y h=>?_⟩;simp only [bwd,aI,List.flatMap_nil,List.reverse_nil,List.foldl_nil,aE] at h;split at h
  ·cases h;exact ⟨zb _,.inl (by assumption)⟩
  ·cases h
 | m::ms,t,o=>by
  have o':Ord m.t ms:=⟨λx hx=>⟨(yd.mp o.2).1 x hx,(o.1 x (.tail _ hx)).2⟩,(yd.mp o.2).2⟩;obtain ⟨a,b⟩:=uS (bV:=bV) (last:=last) o';rw [NO];obtain ⟨a1,b1⟩:=kZ (x:=⟨m.hi.toNat,m.lo.toNat,m.t⟩) a b;obtain ⟨a2,b2⟩:=kZ (x:=⟨m.lo.toNat,m.hi.toNat,m.t⟩) a1 b1;refine ⟨a2,λi y h=>?_⟩;obtain ⟨c1,c2⟩:=b2 i y h;have:=(o.1 m (.head _)).1;exact ⟨c1,c2.imp id λz=>by show t - 1<=y;have:m.t - 1<=y:=z;omega⟩
theorem sU {bV:Nat}{last:Int}:∀ {ms:List M4}{t:Int}{st:Fn},Ord t ms->(∀ i y,st i=some y->y<=t\/∀ j,st j≠none->j=i) ->
  ((∃ x,fwd ms st bV=some x/\x<=last)↔∃ i a b,st i=some a/\bwd ms bV last i=some b/\a<=b)
 | [],t,st,_,_=>by
  simp only [fwd,bwd,aI,List.flatMap_nil,List.reverse_nil,List.foldl_nil,aE];constructor
  ·rintro ⟨x,h,le⟩;exact ⟨bV,x,last,h,by simp,le⟩
  ·rintro ⟨i,a,b,h1,h2,h3⟩;split at h2
   ·rename_i e;subst e;cases h2;exact ⟨a,h1,h3⟩
   ·cases h2
 | m::ms,t,st,o,hs=>by
  have o':Ord m.t ms:=⟨λx hx=>⟨(yd.mp o.2).1 x hx,(o.1 x (.tail _ hx)).2⟩,(yd.mp o.2).2⟩;obtain ⟨t0,ne⟩:=o.1 m (.head _);have hs0:∀ i y,st i=some y->y<=m.t\/∀ j,st j≠none->j=i:=λi y h=>(hs i y h).imp (λz=>by omega) id;have RN:=kW (x:=⟨m.lo.toNat,m.hi.toNat,m.t⟩) hs0 ne;have N5:=kW (x:=⟨m.hi.toNat,m.lo.toNat,m.t⟩) RN ne.symm;obtain ⟨a,b⟩:=uS (bV:=bV) (last:=last) o';obtain ⟨a1,b1⟩:=kZ (x:=⟨m.hi.toNat,m.lo.toNat,m.t⟩) a b;rw [T5,NO,sU o' N5];rw [Pc (x:=⟨m.hi.toNat,m.lo.toNat,m.t⟩) a b RN ne.symm];exact Pc (x:=⟨m.lo.toNat,m.hi.toNat,m.t⟩) a1 b1 hs0 ne
theorem O4 {ms:List M4}{t:Int}{v bV:Nat}{s last:Int}(o:Ord t ms):(∃ x,fwd ms (aE v s) bV=some x/\x<=last)↔∃ b,bwd ms bV last v=some b/\s<=b:=by
 rw [sU o]
 ·constructor
  ·rintro ⟨i,a,b,h1,h2,h3⟩;unfold aE at h1;split at h1
   ·rename_i e;subst e;cases h1;exact ⟨b,h2,h3⟩
   ·cases h1
  ·rintro ⟨b,h1,h2⟩;exact ⟨v,s,b,by simp [aE],h1,h2⟩
 ·intro i y h;refine .inr λj hj=>?_;unfold aE at h hj;by_cases e:i=v
  ·by_cases e':j=v
   ·rw [e,e']
   ·rw [if_neg e'] at hj;exact absurd rfl hj
  ·rw [if_neg e] at h;cases h
theorem Good.ord {w:Int}{ms:List M4}(g:Good w ms):Ord 1 ms:=by
 refine ⟨λm hm=>?_,g.order.imp λh=>?_⟩
 ·obtain ⟨a1,a2,a3,a4,_⟩:=g.each m hm;exact ⟨a4,by omega⟩
 ·rcases h with h | h
  ·omega
  ·omega
theorem o4 {ms:List M4}{t:Int}{v bV:Nat}{s last:Int}(o:Ord t ms):aY (fwd ms (aE v s) bV) last=gT (bwd ms bV last v) s:=by rw [xB,aL,dR];exact O4 o
def rep (n:Nat)(f:Fn):List (Option Int):=(List.range n).map f
theorem qZ (n:Nat)(f:Fn):(rep n f).length=n:=by simp [rep]
theorem jB {n k:Nat}{f:Fn}(h:k < n):(rep n f)[k]?=some (f k):=by simp [rep,h]
theorem qu {n k:Nat}{f:Fn}(h:k < n):((rep n f).map oV)[k]?=some (oV (f k)):=by rw [zS,jB h];rfl
theorem iw {n k:Nat}{f:Fn}{x:Option Int}(h:k < n):(rep n f).set k x=rep n (put f k x):=by
 apply List.ext_getElem?
 intro i;rw [List.getElem?_set];by_cases e:k=i
 ·subst e;rw [if_pos rfl,if_pos (by rw [qZ];exact h),jB h,wo]
 ·rw [if_neg e];by_cases hi:i < n
  ·rw [jB hi,jB hi,qO λz=>e z.symm]
  ·rw [yZ (by rw [qZ];omega),yZ (by rw [qZ];omega)]
theorem SJ {n:Nat}{f g:Fn}:rep n f=rep n g↔∀ i,i < n->f i=g i:=by
 constructor
 ·intro h i hi;have:=congrArg (λl=>l[i]?) h;simp only [jB hi] at this;exact Option.some.inj this
 ·intro h;exact yH λi hi=>h i (zh.mp hi)
structure W4 where
 n:Nat
 w:W3
def W4.vs (x:W4):List V:=[.int x.n,.int x.w.g,.int x.w.o,.int x.w.t]
noncomputable def cM (ms:List M4):Nat->List W4
 | 0=>[]
 | i + 1=>cM ms i++(match ms[i]? with
  | some m=>[⟨i,⟨m.lo.toNat,m.hi.toNat,m.t⟩⟩,⟨i,⟨m.hi.toNat,m.lo.toNat,m.t⟩⟩]
  | none=>[])
theorem iX {ms:List M4}{i:Nat}{m:M4}(h:ms[i]?=some m):cM ms (i + 1)=cM ms i++[⟨i,⟨m.lo.toNat,m.hi.toNat,m.t⟩⟩,⟨i,⟨m.hi.toNat,m.lo.toNat,m.t⟩⟩]:=by
 conv=>lhs;unfold cM
 rw [h]
theorem mU (ms:List M4):∀ i,i<=ms.length->(cM ms i).map (·.w)=aI (ms.take i)
 | 0,_=>by simp [cM,aI]
 | i + 1,h=>by
  have hi:i < ms.length:=h;have e:ms[i]?=some ms[i]:=by simp [hi]
  rw [iX e,zE,mU ms i (by omega),we e];unfold aI;rw [xJ];rfl
theorem ie (ms:List M4):(cM ms ms.length).map (·.w)=aI ms:=by rw [mU ms _ (zD _),zq]
theorem kh (ms:List M4):(aI ms).length=2 * ms.length:=by
 induction ms with
 | nil=>rfl
 | cons m ms ih=>
  have:aI (m::ms)=two m++aI ms:=by unfold aI;rw [List.flatMap_cons]
  rw [this,zG,ih,zU];show 2 + _=_;omega
theorem qa {w:Int}{ms:List M4}(g:Good w ms){x:W3}(h:x∈aI ms):(x.g:Int) < w/\(x.o:Int) < w/\1<=x.t/\x.t<=1000000000/\x.g≠x.o:=by
 unfold aI at h;obtain ⟨m,hm,hx⟩:=ye.mp h;obtain ⟨a1,a2,a3,a4,a5,_⟩:=g.each m hm;unfold two at hx;simp only [zH,yW,or_false] at hx;rcases hx with rfl | rfl
 ·exact ⟨by show (m.lo.toNat:Int) < w;omega,by show (m.hi.toNat:Int) < w;omega,a4,a5,by show m.lo.toNat≠m.hi.toNat;omega⟩
 ·exact ⟨by show (m.hi.toNat:Int) < w;omega,by show (m.lo.toNat:Int) < w;omega,a4,a5,by show m.hi.toNat≠m.lo.toNat;omega⟩
theorem fX {o:Option Int}:(oV o=.bL)↔o=none:=by cases o <;> simp [oV]
def XD:Sp:=λvs H Q _=>∃ o t,vs=[oV o,.int t]/\Q (.bl (gT o t)) H
def Ve:Sp:=λvs H Q _=>∃ o t,vs=[oV o,.int t]/\Q (.bl (below o t)) H
def Xv:Sp:=λvs H Q _=>∃ o t,vs=[oV o,.int t]/\Q (.bl (aY o t)) H
noncomputable def XC:Sp:=λvs H Q _=>∃ b,∃ k:Nat,∃ x aa tr tm ps,vs=[.ref b,.int k,.int x]/\aO H b aa tr tm ps/\aa.length<=1000/\∀ l H',H l=none->aG H H'->H' l=some (.lst ((rep aa.length (aE k x)).map oV))->Q (.ref l) H'
noncomputable def Xu:Sp:=λvs H Q _=>∃ b aa tr tm ps,vs=[.ref b]/\aO H b aa tr tm ps/\Good aa.length (ps.map (·.2))/\∀ l (ws:List (Addr×W4)) H',H l=none->aG H H'->H' l=some (.lst (ws.map λa=>V.ref a.1))->(∀ a∈ws,H' a.1=some (.tup a.2.vs))->ws.map (·.2)=cM (ps.map (·.2)) ps.length->Q (.ref l) H'
noncomputable def Oh:Sp:=λvs H Q _=>∃ b,∃ k:Nat,∃ x aa tr tm ps,vs=[.ref b,.int k,.int x]/\aO H b aa tr tm ps/\aa.length<=1000/\Good aa.length (ps.map (·.2))/\∀ l H',H l=none->aG H H'->H' l=some (.lst ((rep aa.length (bwd (ps.map (·.2)) k x)).map oV))->Q (.ref l) H'
noncomputable def Pq:Sp:=λvs H Q _=>∃ b,∃ k:Nat,∃ x aa tr tm ps,vs=[.ref b,.int k,.int x]/\k < aa.length/\aO H b aa tr tm ps/\aa.length<=1000/\Good aa.length (ps.map (·.2))/\∀ l H',H l=none->aG H H'->H' l=some (.lst ((rep aa.length (fwd (ps.map (·.2)) (aE k x))).map oV))->Q (.ref l) H'
noncomputable def Vc:Sp:=λvs H Q _=>∃ b,∃ k w:Nat,∃ x z aa tr tm ps,vs=[.ref b,.int k,.int x,.int w,.int z]/\k < aa.length/\w < aa.length/\aO H b aa tr tm ps/\aa.length<=1000/\Good aa.length (ps.map (·.2))/\∀ H',aG H H'->Q (.bl (aY (fwd (ps.map (·.2)) (aE k x) w) z)) H'
end Sm
namespace L2
open PySem PySem.Spec PyProof.Rows
section
variable {n:Nat}{caps:List Nat}{g:TG}{tc:TT}{te:TE}{σ:St}{H:Hp}{Qf:Addr->Hp->List V->Prop}
theorem O1 {lo:Int}{m:Nat}(Pv:Nat->St->List V->Hp->Prop)(h0:Pv 0 (dW n caps σ) [] H)(hn:m<=1000)(hl:∀ i τ acc H,Pv i τ acc H->acc.length<=i)
  (hs:∀ i τ acc H (C:St->List V->Hp->Prop),i < m->Pv i τ acc H->(∀ τ acc H,Pv (i + 1) τ acc H->C τ acc H)->g (.int (lo + i)) τ H fun bR H2=>tc bR H2 λb H3=>if b=true then te bR H3 λy H4=>C bR (acc++[y]) H4 else C bR acc H3)
  (hd:∀ τ acc H,Pv m τ acc H->∀ p,H p=none->Qf p H acc) :
  ∃ W:Nat->Nat->St->List V->Hp->Prop,(∃ m,W 0 m (dW n caps σ) [] H)/\∀ i m' τ acc H,W i m' τ acc H ->
   ((Pb lo m).stop i H/\acc.length<=sizeLine/\∀ p,H p=none->Qf p H acc) \/
   ((Pb lo m).go i H/\acc.length < sizeLine/\∀ x H',(Pb lo m).tG i H x H'->g x τ H' fun bR H2=>tc bR H2 λb H3=>if b=true then te bR H3 λy H4=>∃ Td,Td < m'/\W (i + 1) Td bR (acc++[y]) H4 else ∃ Td,Td < m'/\W (i + 1) Td bR acc H3):=
 jS (J:=Pb lo m) Pv m h0 hn hl (λi τ acc H hi p=>hi) (fun τ acc H p=>zD _)
  (λi τ acc H C hi p c x H' y=>by obtain ⟨e1,e2⟩:=y;subst e1;subst e2;exact hs i τ acc _ C hi p c) hd
end
end L2
namespace Sm
open PySem L2 bh
def run (ws:List W3)(st:Fn):Fn:=ws.foldl aK st
theorem cX:∀ {ws:List W3}{st:Fn}{i:Nat}{y:Int},st i=some y->run ws st i=some y
 | [],_,_,_,h=>h
 | w::ws,st,i,y,h=>cX (ws:=ws) (qW h)
theorem jA:∀ {ws:List W3}{st:Fn}{i:Nat}{t:Int},run ws st i=some t->st i=none->∃ x∈ws,x.o=i/\x.t=t/\∃ y,run ws st x.g=some y/\y < t
 | [],st,i,t,h,h0=>by
  have:st i=some t:=h;rw [h0] at this;cases this
 | w::ws,st,i,t,h,h0=>by
  have h':run ws (aK st w) i=some t:=h;cases e:aK st w i with
  | none=>
   obtain ⟨x,hx,a,b,y,hy,lt⟩:=jA h' e;exact ⟨x,.tail _ hx,a,b,y,hy,lt⟩
  | some z=>
   have z':=cX (ws:=ws) e;rw [h'] at z';cases z';unfold aK at e;split at e
   ·rename_i c;by_cases io:i=w.o
    ·subst io;rw [wo] at e;cases e;obtain ⟨y,hy,lt⟩:=aJ.mp c.2;exact ⟨w,.head _,rfl,rfl,y,cX (ws:=w::ws) hy,lt⟩
    ·rw [qO io,h0] at e;cases e
   ·rw [h0] at e;cases e
theorem nK:∀ {ws:List W3}{st:Fn},(∀ x∈ws,x.g≠x.o)->ws.Pairwise (λa b=>a.t<=b.t)->(∀ x∈ws,∀ i y,st i=some y->y<=x.t\/∀ j,st j≠none->j=i) ->
  ∀ x∈ws,∀ y,run ws st x.g=some y->y < x.t->∃ e,run ws st x.o=some e/\e<=x.t
 | w::ws,st,ne,pw,hs,x,hx,y,hy,lt=>by
  obtain ⟨p1,p2⟩:=yd.mp pw;rcases zH.mp hx with rfl | hx
  ·cases e:st x.g with
   | none=>
    obtain ⟨z,hz,a,b,_⟩:=jA (ws:=x::ws) hy e;rcases zH.mp hz with rfl | hz
    ·exact absurd a.symm (ne z (.head _))
    ·have:=p1 z hz;omega
   | some z=>
    have:=cX (ws:=x::ws) e;rw [hy] at this;cases this;cases eo:st x.o with
    | none=>
     refine ⟨x.t,?_,zb _⟩;show run ws (aK st x) x.o=some x.t;refine cX ?_;unfold aK;rw [if_pos ⟨eo,aJ.mpr ⟨y,e,lt⟩⟩,wo]
    | some z=>
     refine ⟨z,cX (ws:=x::ws) eo,?_⟩;rcases hs x (.head _) _ _ eo with q | q
     ·exact q
     ·exact absurd (q x.g (by rw [e];simp)) (ne x (.head _))
  ·refine nK (ws:=ws) (st:=aK st w) (λa ha=>ne a (.tail _ ha)) p2 (λa ha i z hz=>?_) x hx y hy lt;have base:∀ i y,st i=some y->y<=w.t\/∀ j,st j≠none->j=i:=hs w (.head _);rcases kW (x:=w) base (ne w (.head _)) i z hz with q | q
   ·exact .inl (Int.le_trans q (p1 a ha))
   ·exact .inr q
theorem vg:∀ {ms:List M4},ms.Pairwise (λa b=>a.t<=b.t)->(aI ms).Pairwise (λa b=>a.t<=b.t)
 | [],_=>.nil
 | m::ms,h=>by
  obtain ⟨h1,h2⟩:=yd.mp h;have e:aI (m::ms)=two m++aI ms:=by unfold aI;rw [List.flatMap_cons]
  rw [e,List.pairwise_append];refine ⟨?_,vg h2,λa ha b hb=>?_⟩
  ·unfold two;refine .cons (λx hx=>?_) (List.pairwise_singleton _ _);cases zJ.mp hx;exact zb _
  ·have ta:a.t=m.t:=by
    unfold two at ha;simp only [zH,yW,or_false] at ha;rcases ha with rfl | rfl <;> rfl
   unfold aI at hb;obtain ⟨r,hr,hx⟩:=ye.mp hb;have tb:b.t=r.t:=by
    unfold two at hx;simp only [zH,yW,or_false] at hx;rcases hx with rfl | rfl <;> rfl
   rw [ta,tb];exact h1 r hr
structure jY (w:Nat) (ws:List W3) (s:Nat) (x:Int) (E:Fn):Prop where
 self:E s=some x
 XS:∀ i t,i≠s->E i=some t->∃ a∈ws,a.o=i/\a.t=t/\∃ y,E a.g=some y/\y < t
 aa4:∀ a∈ws,∀ y,E a.g=some y->y < a.t->∃ e,E a.o=some e/\e<=a.t
 inside:∀ a∈ws,a.g < w/\a.o < w
theorem fN {n s:Nat}{x:Int}{ms:List M4}(g:Good n ms):jY n (aI ms) s x (fwd ms (aE s x)):=by
 refine ⟨?_,λi t ne h=>?_,?_,λa ha=>?_⟩
 ·exact cX (ws:=aI ms) (by simp [aE])
 ·exact jA (ws:=aI ms) h (by simp [aE,ne])
 ·refine nK (λa ha=>(qa g ha).2.2.2.2) (vg g.ord.2) (λa ha i y h=>.inr λj hj=>?_);unfold aE at h hj;by_cases e:i=s
  ·by_cases e':j=s
   ·rw [e,e']
   ·rw [if_neg e'] at hj;exact absurd rfl hj
  ·rw [if_neg e] at h;cases h
 ·obtain ⟨a1,a2,_⟩:=qa g ha;omega
noncomputable def gn (A F:Fn)(x:W3):Fn:=if below (A x.g) x.t=true/\aY (F x.o) x.t=false then put F x.o (some x.t) else F
def roundF (ws:List W3)(A:Fn):Fn:=ws.foldl (gn A) A
def mL (a b:Option Int):Prop:=∀ y,b=some y->∃ x,a=some x/\x<=y
theorem mL.refl (a:Option Int):mL a a:=λy h=>⟨y,h,zb _⟩
theorem mL.trans {a b c:Option Int}(h:mL a b)(h':mL b c):mL a c:=λy e=>by
 obtain ⟨x,hx,l⟩:=h' y e;obtain ⟨z,hz,l'⟩:=h x hx;exact ⟨z,hz,Int.le_trans l' l⟩
theorem SH {A F:Fn}{x:W3}(i:Nat):mL (gn A F x i) (F i):=by
 unfold gn;split
 ·rename_i c;by_cases e:i=x.o
  ·subst e;rw [wo];intro y hy;refine ⟨x.t,rfl,?_⟩;have:=c.2;rw [hy] at this;have h2:¬ y<=x.t:=by simpa [aY] using this
   omega
  ·rw [qO e];exact mL.refl _
 ·exact mL.refl _
theorem uG {A:Fn}(i:Nat):∀ (ws:List W3) (F:Fn),mL (ws.foldl (gn A) F i) (F i)
 | [],_=>mL.refl _
 | x::ws,F=>(uG i ws (gn A F x)).trans (SH i)
theorem Nq {A:Fn}:∀ (ws:List W3) (F:Fn) (x:W3),x∈ws->below (A x.g) x.t=true->mL (ws.foldl (gn A) F x.o) (some x.t)
 | w::ws,F,x,hx,hb=>by
  rcases zH.mp hx with rfl | hx
  ·refine (uG x.o ws (gn A F x)).trans ?_;unfold gn;split
   ·rw [wo];exact mL.refl _
   ·rename_i c;cases e:aY (F x.o) x.t with
    | false=>exact absurd ⟨hb,e⟩ c
    | true=>
     obtain ⟨y,hy,l⟩:=aL.mp e;intro z hz;cases hz;exact ⟨y,hy,l⟩
  ·exact Nq ws (gn A F w) x hx hb
theorem Np {n s:Nat}{x0:Int}{RI:List W3}{E A:Fn}(h:jY n RI s x0 E)(hA:∀ i,mL (E i) (A i)):∀ (ws:List W3) (F:Fn),(∀ a∈ws,a∈RI)->(∀ i,mL (E i) (F i))->∀ i,mL (E i) (ws.foldl (gn A) F i)
 | [],F,_,hF,i=>hF i
 | w::ws,F,sub,hF,i=>by
  refine Np h hA ws (gn A F w) (λa ha=>sub a (.tail _ ha)) (λj=>?_) i;unfold gn;split
  ·rename_i c;by_cases e:j=w.o
   ·subst e;rw [wo];intro y hy;cases hy;obtain ⟨z,hz,lt⟩:=aJ.mp c.1;obtain ⟨z',hz',l'⟩:=hA w.g z hz;exact h.aa4 w (sub w (.head _)) z' hz' (by omega)
   ·rw [qO e];exact hF j
  ·exact hF j
noncomputable def rounds (ws:List W3)(A:Fn):Nat->Fn
 | 0=>A
 | k + 1=>roundF ws (rounds ws A k)
def gq (n:Nat)(E:Fn)(t:Int):Nat:=(List.range n).countP λj=>below (E j) t
theorem kI {ws:List W3}{A:Fn}{i:Nat}:∀ k,mL (rounds ws A k i) (A i)
 | 0=>mL.refl _
 | k + 1=>(uG i ws (rounds ws A k)).trans (kI k)
theorem OA {n s:Nat}{x0:Int}{RI ws:List W3}{E:Fn}(h:jY n RI s x0 E)(hw:∀ a∈RI,a∈ws):∀ (k i:Nat) (t:Int),E i=some t->gq n E t<=k->mL (rounds ws (aE s x0) k i) (some t):=by
 intro k;induction k with
 | zero=>
  intro i t hi hr;by_cases e:i=s
  ·subst e;rw [h.self] at hi;cases hi;refine (kI 0).trans ?_;simp [aE];exact mL.refl _
  ·obtain ⟨a,ha,_,_,y,hy,lt⟩:=h.XS i t e hi;have:0 < gq n E t:=List.countP_pos_iff.mpr ⟨a.g,zh.mpr (h.inside a ha).1,aJ.mpr ⟨y,hy,lt⟩⟩;omega
 | succ k ih=>
  intro i t hi hr;by_cases e:i=s
  ·subst e;rw [h.self] at hi;cases hi;refine (kI (k + 1)).trans ?_;simp [aE];exact mL.refl _
  ·obtain ⟨a,ha,ao,at',y,hy,lt⟩:=h.XS i t e hi;have lt2:gq n E y < gq n E t:=iC (λj hj=>by
    obtain ⟨z,hz,l⟩:=aJ.mp hj;exact aJ.mpr ⟨z,hz,by omega⟩) (zh.mpr (h.inside a ha).1) (by
     cases c:below (E a.g) y with
     | false=>rfl
     | true=>
      obtain ⟨z,hz,l⟩:=aJ.mp c;rw [hy] at hz;cases hz;omega) (aJ.mpr ⟨y,hy,lt⟩)
   obtain ⟨z,hz,lz⟩:=ih a.g y hy (by omega) y rfl;have:=Nq ws (rounds ws (aE s x0) k) a (hw a ha) (aJ.mpr ⟨z,hz,by omega⟩);rw [ao,at'] at this;exact this
theorem rY {n s:Nat}{x0:Int}{RI ws:List W3}{E:Fn}(h:jY n RI s x0 E)(hw:∀ a∈RI,a∈ws)(hw':∀ a∈ws,a∈RI){i:Nat}(hi:i < n):rounds ws (aE s x0) n i=E i:=by
 have low:∀ k i,mL (E i) (rounds ws (aE s x0) k i):=by
  intro k;induction k with
  | zero=>
   intro i;show mL (E i) (aE s x0 i);unfold aE;split
   ·rename_i e;rw [e,h.self];exact mL.refl _
   ·intro y hy;cases hy
  | succ k ih=>exact λi=>Np h ih ws _ hw' ih i
 cases e:E i with
 | none=>
  cases c:rounds ws (aE s x0) n i with
  | none=>rfl
  | some y=>
   obtain ⟨x,hx,_⟩:=low n i y c;rw [e] at hx;cases hx
 | some t=>
  have rk:gq n E t<=n:=by
   unfold gq;have:=yy (p:=λj=>below (E j) t) (l:=List.range n);rw [yK] at this;exact this
  obtain ⟨a,ha,l⟩:=OA h hw n i t e rk t rfl;obtain ⟨b,hb,l'⟩:=low n i a ha;rw [e] at hb;cases hb;rw [ha];congr 1;omega
end Sm
namespace L2
open PySem PySem.Spec PyProof.Rows
section
variable {X:Cx}{af:List (Addr×Obj)}{σ:St}{H:Hp}{s:Shared}
theorem Inv.keptAll {m:Str->Option Value}{h':Heap}{tk:Nat}(I:Inv X af σ H s)(F0:Fr X.base X.env.locals s.heap m)(F:Fr X.base X.env.locals h' m)
  (N:News X.base X.env.locals h' (gc X.base s.heap X.env.locals)):Inv X af σ H { s with heap:=h',toks:=tk }:=by
 have keep:∀ b o,b≠X.env.locals->s.heap.get? b=some o->h'.get? b=some o:=λb o hb e=>by
  cases q:X.base.get? b with
  | some u=>
   have:=I.bk b u q;rw [e] at this;cases this;exact F.keep b _ q
  | none=>exact (N (b,o) (ee hb q e)).1
 refine I.step (g':=s.gens) (t':=tk) (d':=s.drawn) (ch:=[]) (λ_ z=>nomatch z) (λb o hb _ _ e _=>keep b o hb e) (λb o hb _ _ e _=>⟨o.slots,keep b o hb e⟩) (λb o _ e n=>n) (λb o _ e=>?_)
  (λb ys e=>e) (λb o u e=>e) (λb ps e=>⟨#[],by rw [e,Array.append_empty]⟩) (λm' hm=>?_) (λb u e=>?_) I.bare
 ·by_cases hb:b=X.env.locals
  ·obtain ⟨o',_,_,q,_⟩:=F.ns;exact ⟨o',by rw [hb];exact q⟩
  ·exact ⟨o,keep b o hb e⟩
 ·obtain ⟨o1,WZ,ep1,e1,d1,k1,f1⟩:=hm;obtain ⟨o2,es2,ep2,e2,d2,k2,f2⟩:=F0.ns;rw [e1] at e2;cases e2;rw [d1] at d2;cases d2;obtain ⟨o3,es3,ep3,e3,d3,k3,f3⟩:=F.ns;exact ⟨o3,es3,ep3,e3,d3,k3,λname=>(f3 name).trans ((f2 name).symm.trans (f1 name))⟩
 ·refine (I.bF b u e).dX (λc v hc q=>keep c v (λz=>?_) q) (λc q=>q) λc ys q=>q;rcases hc with rfl | hc
  ·rw [z,I.free] at e;cases e
  ·rw [z,I.free] at hc;cases hc
theorem NP:∀ {bs:List Bool}{us:List Value},Vals (bs.map V.bl) us->LSm.BoolsAre us bs
 | [],us,r=>by cases r;exact .nil
 | b::bs,us,r=>by
  cases r with
  | cons x y=>
   cases x;exact .cons b (NP y)
theorem Ud {K:PySem.W.Frag}(hK:X.K=K)(hc:X.calm=true):dm X (.builtin "all") (λxs H Q=>∃ p,∃ bs:List Bool,xs=[.ref p]/\aU K H p (bs.map V.bl)/\Q (.bl (bs.all id)) H):=by subst hK;intro af s σ H xs us Q I r h;obtain ⟨p,bs,rfl,hq,q⟩:=h;obtain ⟨u,rfl,rx⟩:=vals1 r;cases rx;obtain ⟨aH,r',pl,hz⟩:=I.list hq;obtain ⟨m,F⟩:=I.fr;exact LSm.all_bools F (vR (g:=X.base) (h:=s.heap)) (I.ok.hd hc) pl.isList (NP r') λh' tk F' N'=>⟨.bl _,H,I.keptAll F F' N',rfl,q⟩
end
end L2
namespace Sm
open PySem L2 bh
theorem cT {K:PySem.W.Frag}{H:Hp}{a:Addr}{xs:List V}{i:Int}{v:V}{Q:V->Prop}(h:H a=some (.tup xs))(hi:gb xs i=some v)(q:Q v):∃ p Xh i' v',V.ref a=.ref p/\V.int i=.int i'/\bS K H p Xh/\gb Xh i'=some v'/\Q v':=⟨a,xs,i,v,rfl,rfl,bS.of h,hi,q⟩
theorem fk {K:PySem.W.Frag}{H:Hp}{a:Addr}{xs:List V}{i:Int}{v:V}{Q:V->Prop}(h:H a=some (.lst xs))(hi:gb xs i=some v)(q:Q v):∃ p Xh i' v',V.ref a=.ref p/\V.int i=.int i'/\aU K H p Xh/\gb Xh i'=some v'/\Q v':=⟨a,xs,i,v,rfl,rfl,aU.of h,hi,q⟩
theorem N8 {P:List Value->Prop}{us:List Value}{n:Nat}(h:us.length=n + 1)(q:∀ a r,r.length=n->P (a::r)):P us:=by
 cases us with
 | nil=>cases h
 | cons a r=>exact q a r (Nat.succ.inj h)
theorem Zz {P:List Value->Prop}{us:List Value}(h:us.length=0)(q:P []):P us:=by rw [List.eq_nil_of_length_eq_zero h];exact q
theorem RJ {fd:FuncData}{ps:List Str}{us:List Value}(h:us.length=1)(q:∀ a,bindArgs fd ⟨[a],[]⟩=pure (ps.zip [a])):bindArgs fd ⟨us,[]⟩=pure (ps.zip us):=N8 (P:=λus=>bindArgs fd ⟨us,[]⟩=pure (ps.zip (us))) h λa us h=>Zz (P:=λus=>bindArgs fd ⟨a::us,[]⟩=pure (ps.zip (a::us))) h (q a)
theorem kq {fd:FuncData}{ps:List Str}{us:List Value}(h:us.length=2)(q:∀ a b,bindArgs fd ⟨[a,b],[]⟩=pure (ps.zip [a,b])):bindArgs fd ⟨us,[]⟩=pure (ps.zip us):=N8 (P:=λus=>bindArgs fd ⟨us,[]⟩=pure (ps.zip (us))) h λa us h=>N8 (P:=λus=>bindArgs fd ⟨a::us,[]⟩=pure (ps.zip (a::us))) h λb us h=>Zz (P:=λus=>bindArgs fd ⟨a::b::us,[]⟩=pure (ps.zip (a::b::us))) h (q a b)
theorem vq {fd:FuncData}{ps:List Str}{us:List Value}(h:us.length=3)(q:∀ a b c,bindArgs fd ⟨[a,b,c],[]⟩=pure (ps.zip [a,b,c])):bindArgs fd ⟨us,[]⟩=pure (ps.zip us):=N8 (P:=λus=>bindArgs fd ⟨us,[]⟩=pure (ps.zip (us))) h λa us h=>N8 (P:=λus=>bindArgs fd ⟨a::us,[]⟩=pure (ps.zip (a::us))) h λb us h=>N8 (P:=λus=>bindArgs fd ⟨a::b::us,[]⟩=pure (ps.zip (a::b::us))) h λc us h=>Zz (P:=λus=>bindArgs fd ⟨a::b::c::us,[]⟩=pure (ps.zip (a::b::c::us))) h (q a b c)
theorem us4 {fd:FuncData}{ps:List Str}{us:List Value}(h:us.length=4)(q:∀ a b c d,bindArgs fd ⟨[a,b,c,d],[]⟩=pure (ps.zip [a,b,c,d])):bindArgs fd ⟨us,[]⟩=pure (ps.zip us):=N8 (P:=λus=>bindArgs fd ⟨us,[]⟩=pure (ps.zip (us))) h λa us h=>N8 (P:=λus=>bindArgs fd ⟨a::us,[]⟩=pure (ps.zip (a::us))) h λb us h=>N8 (P:=λus=>bindArgs fd ⟨a::b::us,[]⟩=pure (ps.zip (a::b::us))) h λc us h=>N8 (P:=λus=>bindArgs fd ⟨a::b::c::us,[]⟩=pure (ps.zip (a::b::c::us))) h λd us h=>Zz (P:=λus=>bindArgs fd ⟨a::b::c::d::us,[]⟩=pure (ps.zip (a::b::c::d::us))) h (q a b c d)
theorem us5 {fd:FuncData}{ps:List Str}{us:List Value}(h:us.length=5)(q:∀ a b c d e,bindArgs fd ⟨[a,b,c,d,e],[]⟩=pure (ps.zip [a,b,c,d,e])):bindArgs fd ⟨us,[]⟩=pure (ps.zip us):=N8 (P:=λus=>bindArgs fd ⟨us,[]⟩=pure (ps.zip (us))) h λa us h=>N8 (P:=λus=>bindArgs fd ⟨a::us,[]⟩=pure (ps.zip (a::us))) h λb us h=>N8 (P:=λus=>bindArgs fd ⟨a::b::us,[]⟩=pure (ps.zip (a::b::us))) h λc us h=>N8 (P:=λus=>bindArgs fd ⟨a::b::c::us,[]⟩=pure (ps.zip (a::b::c::us))) h λd us h=>N8 (P:=λus=>bindArgs fd ⟨a::b::c::d::us,[]⟩=pure (ps.zip (a::b::c::d::us))) h λe us h=>Zz (P:=λus=>bindArgs fd ⟨a::b::c::d::e::us,[]⟩=pure (ps.zip (a::b::c::d::e::us))) h (q a b c d e)
theorem Zr {kc j9 j8 j7 j5:Type}{P:kc->j9->j8->j7->j5->Prop}(x0:kc)(x1:j9)(x2:j8)(x3:j7)(x4:j5)(h:P x0 x1 x2 x3 x4):∃ y0:kc,∃ y1:j9,∃ y2:j8,∃ y3:j7,∃ y4:j5,P y0 y1 y2 y3 y4:=⟨x0,x1,x2,x3,x4,h⟩
theorem ex6 {kc j9 j8 j7 j5 mS:Type}{P:kc->j9->j8->j7->j5->mS->Prop}(x0:kc)(x1:j9)(x2:j8)(x3:j7)(x4:j5)(x5:mS)(h:P x0 x1 x2 x3 x4 x5):∃ y0:kc,∃ y1:j9,∃ y2:j8,∃ y3:j7,∃ y4:j5,∃ y5:mS,P y0 y1 y2 y3 y4 y5:=⟨x0,x1,x2,x3,x4,x5,h⟩
theorem OY {kc j9 j8 j7 j5 mS tF:Type}{P:kc->j9->j8->j7->j5->mS->tF->Prop}(x0:kc)(x1:j9)(x2:j8)(x3:j7)(x4:j5)(x5:mS)(x6:tF)(h:P x0 x1 x2 x3 x4 x5 x6):∃ y0:kc,∃ y1:j9,∃ y2:j8,∃ y3:j7,∃ y4:j5,∃ y5:mS,∃ y6:tF,P y0 y1 y2 y3 y4 y5 y6:=⟨x0,x1,x2,x3,x4,x5,x6,h⟩
theorem ex8 {kc j9 j8 j7 j5 mS tF N6:Type}{P:kc->j9->j8->j7->j5->mS->tF->N6->Prop}(x0:kc)(x1:j9)(x2:j8)(x3:j7)(x4:j5)(x5:mS)(x6:tF)(x7:N6)(h:P x0 x1 x2 x3 x4 x5 x6 x7):∃ y0:kc,∃ y1:j9,∃ y2:j8,∃ y3:j7,∃ y4:j5,∃ y5:mS,∃ y6:tF,∃ y7:N6,P y0 y1 y2 y3 y4 y5 y6 y7:=⟨x0,x1,x2,x3,x4,x5,x6,x7,h⟩
theorem ex9 {kc j9 j8 j7 j5 mS tF N6 RW:Type}{P:kc->j9->j8->j7->j5->mS->tF->N6->RW->Prop}(x0:kc)(x1:j9)(x2:j8)(x3:j7)(x4:j5)(x5:mS)(x6:tF)(x7:N6)(x8:RW)(h:P x0 x1 x2 x3 x4 x5 x6 x7 x8):∃ y0:kc,∃ y1:j9,∃ y2:j8,∃ y3:j7,∃ y4:j5,∃ y5:mS,∃ y6:tF,∃ y7:N6,∃ y8:RW,P y0 y1 y2 y3 y4 y5 y6 y7 y8:=⟨x0,x1,x2,x3,x4,x5,x6,x7,x8,h⟩
theorem Rq {kc j9 j8 j7 j5 mS tF N6 RW Xe:Type}{P:kc->j9->j8->j7->j5->mS->tF->N6->RW->Xe->Prop}(x0:kc)(x1:j9)(x2:j8)(x3:j7)(x4:j5)(x5:mS)(x6:tF)(x7:N6)(x8:RW)(x9:Xe)(h:P x0 x1 x2 x3 x4 x5 x6 x7 x8 x9):∃ y0:kc,∃ y1:j9,∃ y2:j8,∃ y3:j7,∃ y4:j5,∃ y5:mS,∃ y6:tF,∃ y7:N6,∃ y8:RW,∃ y9:Xe,P y0 y1 y2 y3 y4 y5 y6 y7 y8 y9:=⟨x0,x1,x2,x3,x4,x5,x6,x7,x8,x9,h⟩
theorem YL {kc j9 j8 j7 j5 mS tF N6 RW Xe Xg Xf:Type}{P:kc->j9->j8->j7->j5->mS->tF->N6->RW->Xe->Xg->Xf->Prop}(x0:kc)(x1:j9)(x2:j8)(x3:j7)(x4:j5)(x5:mS)(x6:tF)(x7:N6)(x8:RW)(x9:Xe)(x10:Xg)(x11:Xf)(h:P x0 x1 x2 x3 x4 x5 x6 x7 x8 x9 x10 x11):∃ y0:kc,∃ y1:j9,∃ y2:j8,∃ y3:j7,∃ y4:j5,∃ y5:mS,∃ y6:tF,∃ y7:N6,∃ y8:RW,∃ y9:Xe,∃ y10:Xg,∃ y11:Xf,P y0 y1 y2 y3 y4 y5 y6 y7 y8 y9 y10 y11:=⟨x0,x1,x2,x3,x4,x5,x6,x7,x8,x9,x10,x11,h⟩
theorem R3 {K:PySem.W.Frag}{H:Hp}{a:Addr}{v0 v1:V}{Q:V->V->Prop}(h:H a=some (.tup [v0,v1]))(q:Q v0 v1):∃ a' xs,V.ref a=.ref a'/\bS K H a' xs/\xs.length=2/\∃ w0 r0,xs=w0::r0/\∃ w1 r1,r0=w1::r1/\r1=[]/\Q w0 w1:=⟨a,_,rfl,bS.of h,rfl,_,_,rfl,_,_,rfl,rfl,q⟩
theorem pS {K:PySem.W.Frag}{H:Hp}{a:Addr}{v0 v1 v2 v3:V}{Q:V->V->V->V->Prop}(h:H a=some (.tup [v0,v1,v2,v3]))(q:Q v0 v1 v2 v3):∃ a' xs,V.ref a=.ref a'/\bS K H a' xs/\xs.length=4/\∃ w0 r0,xs=w0::r0/\∃ w1 r1,r0=w1::r1/\∃ w2 r2,r1=w2::r2/\∃ w3 r3,r2=w3::r3/\r3=[]/\Q w0 w1 w2 w3:=⟨a,_,rfl,bS.of h,rfl,_,_,rfl,_,_,rfl,_,_,rfl,_,_,rfl,rfl,q⟩
theorem zr {α:Sort _}{A Q:α->Prop}{x:α}(a:A x)(q:Q x):∃ y,A y/\Q y:=⟨x,a,q⟩
theorem gJ {α β:Sort _}{A Q:α->β->Prop}{x:α}{y:β}(a:A x y)(q:Q x y):∃ x y,A x y/\Q x y:=⟨x,y,a,q⟩
theorem aT {α β:Sort _}{A B Q:α->β->Prop}{x:α}{y:β}(a:A x y)(b:B x y)(q:Q x y):∃ x y,A x y/\B x y/\Q x y:=⟨x,y,a,b,q⟩
end Sm
namespace L2
open PySem PySem.Spec PyProof.Rows
section
variable {X:Cx}
theorem mz:fillsInplaceSlot (.type "list") "add" true=pure false:=by show (do let fi <- typeLookup (.type "list") (dunderI "add");pure (fi.isSome && !isSeqSlot fi))=_;rw [F.slot_list_iadd.lookup];rfl
theorem pY:seqSlot? (.type "list") (dunderI "add")=pure (some (.builtin "list.__iadd__")):=by
 unfold seqSlot?
 rw [F.slot_list_iadd.lookup];rfl
theorem tK {prog:Program}{w:World}{A:Around}{E:Value->Shared->Prop}{s:Shared}{a b:Value}{Q:Value->Shared->Prop}(ta:s.TypeIs a "list")(tb:s.TypeIs b "list")(h:wpAny (model prog w) A (call (.builtin "list.__iadd__") [a,b]) Q E s):wpAny (model prog w) A (inplaceOp .Add a b) Q E s:=by unfold inplaceOp;refine wpAny_holding (wpAny_bind (wpAny_typeOf ta (wpAny_bind (wpAny_of_eq mz ?_))));dsimp only;rw [if_neg zP];refine wpAny_bind (wpAny_binaryOp1_none ta tb noFill_list_add ?_);dsimp only;refine wpAny_bind (wpAny_of_eq pY ?_);dsimp only;exact wpAny_bind (wpAny_rule h)
theorem Tv:PIp X .Add (λx y H Q=>∃ l b xs zs,x=.ref l/\y=.ref b/\H l=some (.lst xs)/\H b=some (.lst zs)/\xs.length + zs.length<=sizeLine/\Q (.ref l) (upd H l (.lst (xs++zs)))):=by
 intro af s σ H x y v u Q I rx ry h;obtain ⟨l,b,xs,zs,rfl,rfl,hH,hB,hz,q⟩:=h;cases rx;cases ry;obtain ⟨z,aH,n,r,hl,e⟩:=I.ur hH;obtain ⟨z2,dO,n2,r2,Rc,e2⟩:=I.ur hB;have hsz:aH.toArray.size + dO.toArray.size<=sizeLine:=by rw [zR,zR];omega
 have TL:¬ (!aH.toArray.isEmpty && Builtin.List.listTooLong (aH.toArray.size + dO.toArray.size))=true:=by
  rw [vN hsz,xW];exact zP
 refine tK ⟨_,e,rfl⟩ ⟨_,e2,rfl⟩ (call_meets F.slot_list_iadd ⟨_,e,rfl⟩ F.entry_list_iadd (F.args_list_iadd_2 _ _)
  (AutoSeq1.list___iadd___list_list_0 l aH.toArray n b dO.toArray n2 TL (by rw [zR];omega) (by omega)) ⟨e,e2,?_⟩)
 refine ⟨.ref l,_,I.VI (its':=aH++dO) hH e (by simp) (r.append r2) ?_,rfl,q⟩;rw [zG];omega
end
end L2
namespace Sm
open PySem L2 bh
noncomputable def fO (ms:List M4)(n g o:Nat)(t:Int):Prop:=∃ m,ms[n]?=some m/\m.t=t/\((m.lo.toNat=g/\m.hi.toNat=o)\/(m.lo.toNat=o/\m.hi.toNat=g))
theorem dF {ms:List M4}:∀ {i:Nat}{x:W4},x∈cM ms i->fO ms x.n x.w.g x.w.o x.w.t
 | 0,x,h=>by cases h
 | i + 1,x,h=>by
  unfold cM at h;rcases zW.mp h with h | h
  ·exact dF h
  ·cases e:ms[i]? with
   | none=>rw [e] at h;cases h
   | some m=>
    rw [e] at h;simp only [zH,yW,or_false] at h;rcases h with rfl | rfl
    ·exact ⟨m,e,rfl,.inl ⟨rfl,rfl⟩⟩
    ·exact ⟨m,e,rfl,.inr ⟨rfl,rfl⟩⟩
noncomputable def rG (ms:List M4)(k:Nat)(f:Fn)(aN:List (Key×V))(H:Hp):Prop:=
 ∀ o t,f o=some t->o=k\/∃ tt n g y,cO aN (Sum.inl (o:Int))=some (.ref tt)/\H tt=some (.tup [.int ((n:Nat):Int),.int ((g:Nat):Int)])/\fO ms n g o t/\f g=some y/\y < t
theorem rG.br {ms:List M4}{k:Nat}{f:Fn}{aN:List (Key×V)}{H H':Hp}(c:rG ms k f aN H)(t:bN H H'):rG ms k f aN H':=λo x h=>by
 rcases c o x h with e | ⟨tt,n,g,y,a1,a2,a3,a4,a5⟩
 ·exact .inl e
 ·exact .inr ⟨tt,n,g,y,a1,t _ _ a2,a3,a4,a5⟩
theorem rG.step {ms:List M4}{k:Nat}{f:Fn}{aN:List (Key×V)}{H:Hp}{tt:Addr}{x:W4}(c:rG ms k f aN H)(ho:f x.w.o=none)(hb:below (f x.w.g) x.w.t=true)(hl:fO ms x.n x.w.g x.w.o x.w.t)
  (ht:H tt=some (.tup [.int (x.n:Int),.int (x.w.g:Int)])):rG ms k (put f x.w.o (some x.w.t)) (putK aN (Sum.inl (x.w.o:Int)) (.ref tt)) H:=λo t h=>by
 have keep:∀ g y,f g=some y->put f x.w.o (some x.w.t) g=some y:=λg y e=>by rw [qO λz=>by rw [z,ho] at e;cases e];exact e
 by_cases e:o=x.w.o
 ·subst e;rw [wo] at h;cases h;obtain ⟨y,hy,lt⟩:=aJ.mp hb;exact .inr ⟨tt,x.n,x.w.g,y,by rw [vo,if_pos rfl],ht,hl,keep _ _ hy,lt⟩
 ·rw [qO e] at h;rcases c o t h with e' | ⟨t2,n,g,y,a1,a2,a3,a4,a5⟩
  ·exact .inl e'
  ·refine .inr ⟨t2,n,g,y,?_,a2,a3,keep _ _ a4,a5⟩;rw [vo,if_neg λz=>e (by have:=Sum.inl.inj z;omega)];exact a1
noncomputable def So:Sp:=λvs H Q _=>∃ b,∃ k:Nat,∃ x aa tr tm ps,vs=[.ref b,.int k,.int x]/\aO H b aa tr tm ps/\aa.length<=1000/\Good aa.length (ps.map (·.2))/\∀ t l d aN H',H l=none->aG H H'->H' t=some (.tup [.ref l,.ref d])->H' l=some (.lst ((rep aa.length (fwd (ps.map (·.2)) (aE k x))).map oV))->H' d=some (.dK aN)->rG (ps.map (·.2)) k (fwd (ps.map (·.2)) (aE k x)) aN H'->Q (.ref t) H'
noncomputable def aR (ms:List M4):Nat->Int->Int->List Int->Option (Nat×Int)
 | v,t,_,[]=>some (v,t)
 | v,t,a,n::ns=>match ms[n.toNat]? with
  | none=>none
  | some m=>if a < n/\0<=n/\(v=m.lo.toNat\/v=m.hi.toNat)/\t < m.t then aR ms (if v=m.lo.toNat then m.hi.toNat else m.lo.toNat) m.t n ns else none
theorem fq {ms:List M4}{n g o:Nat}{y t a:Int}{ns:List Int}(h:fO ms n g o t)(ne:g≠o)(lt:y < t)(ha:a < n):aR ms g y a ((n:Int)::ns)=aR ms o t n ns:=by
 obtain ⟨m,hm,rfl,h⟩:=h
 conv=>lhs;unfold aR
 rw [show ((n:Int)).toNat=n from by simp,hm];dsimp only;rcases h with ⟨rfl,rfl⟩ | ⟨rfl,rfl⟩
 ·rw [if_pos ⟨ha,by omega,.inl rfl,lt⟩,if_pos rfl]
 ·rw [if_pos ⟨ha,by omega,.inr rfl,lt⟩,if_neg λz=>ne z]
theorem bN.aco {l:Addr}{H:Hp}{aN:List (Key×V)}{o:HO}(h:H l=some (.dK aN)):bN H (upd H l o):=λb u e=>by rw [wF (cZ e h (by intro z;cases z))];exact e
theorem ux {ms:List M4}(o:ms.Pairwise λa b=>a.t<=b.t){i j:Nat}{a b:M4}(hi:ms[i]?=some a)(hj:ms[j]?=some b)(lt:a.t < b.t):i < j:=by
 obtain ⟨h1,e1⟩:=zC.mp hi;obtain ⟨h2,e2⟩:=zC.mp hj;rcases Nat.lt_trichotomy i j with h | h | h
 ·exact h
 ·subst h;rw [e1] at e2;rw [e2] at lt;omega
 ·have:=zl.mp o j i h2 h1 h;rw [e1,e2] at this;omega
noncomputable def mu (n:Nat)(E:Fn)(σ:St):Nat:=match σ[9]? with
 | some (some (V.int v))=>(match E v.toNat with
  | some e=>gq n E e
  | none=>0)
 | _=>0
theorem Vo {n:Nat}{E:Fn}{g:Nat}{y t:Int}(hg:g < n)(hy:E g=some y)(lt:y < t):gq n E y < gq n E t:=
 iC (λj hj=>by
  obtain ⟨z,hz,l⟩:=aJ.mp hj;exact aJ.mpr ⟨z,hz,by omega⟩) (zh.mpr hg) (by
   cases c:below (E g) y with
   | false=>rfl
   | true=>
    obtain ⟨z,hz,l⟩:=aJ.mp c;rw [hy] at hz;cases hz;omega) (aJ.mpr ⟨y,hy,lt⟩)
theorem Vp (n:Nat)(E:Fn)(t:Int):gq n E t<=n:=by unfold gq;have:=yy (p:=λj=>below (E j) t) (l:=List.range n);rw [yK] at this;exact this
theorem fO.inside {n g o w:Nat}{t:Int}{ms:List M4}(g0:Good w ms)(h:fO ms n g o t):g < w/\o < w/\g≠o:=by obtain ⟨m,hm,_,h⟩:=h;obtain ⟨a1,a2,a3,_⟩:=g0.each m (zB hm);rcases h with ⟨rfl,rfl⟩ | ⟨rfl,rfl⟩ <;> omega
noncomputable def cQ (H:Hp)(lt:Addr)(n s w:Nat)(a z:Int):Prop:=H lt=some (.tup [.int (s:Int),.int a,.int (w:Int),.int z])/\s < n/\w < n/\0<=a/\a<=1000000000/\0<=z/\z<=1000000000
theorem cQ.same {H H':Hp}{lt:Addr}{n s w:Nat}{a z:Int}(h:cQ H lt n s w a z)(e:aG H H'):cQ H' lt n s w a z:=⟨e _ _ h.1,h.2⟩
theorem cQ.th {H:Hp}{lt:Addr}{n s w:Nat}{a z:Int}(h:cQ H lt n s w a z):Th H (.ref lt) (some [.int (s:Int),.int a,.int (w:Int),.int z]):=.inr ⟨lt,_,rfl,h.1,λe he=>by
 simp only [zH,yW,or_false] at he;rcases he with rfl | rfl | rfl | rfl <;> exact ⟨_,rfl⟩,rfl⟩
theorem cQ.yes {H:Hp}{lt:Addr}{n s w:Nat}{a z:Int}(h:cQ H lt n s w a z):isLet n (some [.int (s:Int),.int a,.int (w:Int),.int z])=true:=by obtain ⟨_,h1,h2,h3,h4,h5,h6⟩:=h;simp only [isLet,j3,Bool.and_eq_true,decide_eq_true_eq];omega
noncomputable def Om:Sp:=λvs H Q _=>∃ b lt,∃ s w:Nat,∃ a z aa tr tm ps,vs=[.ref b,.ref lt]/\aO H b aa tr tm ps/\aa.length<=1000/\Good aa.length (ps.map (·.2))/\cQ H lt aa.length s w a z /\
 (aY (fwd (ps.map (·.2)) (aE s a) w) z=false->∀ H',aG H H'->Q .bL H') /\
 (∀ e l ns H',fwd (ps.map (·.2)) (aE s a) w=some e->e<=z->H l=none->aG H H'->H' l=some (.lst (List.map V.int ns))->ns.length<=1000->aR (ps.map (·.2)) s a (-1) ns=some (w,e)->Q (.ref l) H')
theorem wx {ms:List M4}{v:Nat}{t A n:Int}{ns:List Int}{r:Nat×Int}(h:aR ms v t A (n::ns)=some r):∃ m,ms[n.toNat]?=some m/\A < n/\0<=n/\(v=m.lo.toNat\/v=m.hi.toNat)/\t < m.t/\aR ms (if v=m.lo.toNat then m.hi.toNat else m.lo.toNat) m.t n ns=some r:=by
 unfold aR at h;cases e:ms[n.toNat]? with
 | none=>rw [e] at h;cases h
 | some m=>
  rw [e] at h;dsimp only at h;split at h
  ·rename_i c;exact ⟨m,rfl,c.1,c.2.1,c.2.2.1,c.2.2.2,h⟩
  ·cases h
theorem bZ.same {H H':Hp}{p:Addr}(h:bZ H p)(e:aG H H'):bZ H' p:=by obtain ⟨x,y,z,q⟩:=h;exact ⟨x,y,z,e _ _ q⟩
noncomputable def uP (ws:List W3)(f:Fn):Bool:=ws.all λx=>!(below (f x.g) x.t) || aY (f x.o) x.t
noncomputable def Qx:Sp:=λvs H Q _=>∃ b,∃ k:Nat,∃ v:Int,∃ aa tr tm ps,∃ m:M4,vs=[.ref b,.int k,.int v]/\aO H b aa tr tm ps/\(ps.map (·.2))[k]?=some m/\Q (.int (if v=m.lo then m.hi else m.lo)) H
noncomputable def Oj:Sp:=λvs H Q _=>∃ b x t aa tr tm ps,vs=[.ref b,x]/\aO H b aa tr tm ps/\pT H x=some t/\Q (.bl (j3 0 ((ps.length:Int) - 1) x)) H
theorem jR {n s:Nat}{x:Int}{ms:List M4}(g:Good n ms):uP (aI ms) (fwd ms (aE s x))=true:=by
 refine yM.mpr λa ha=>?_;cases h:below (fwd ms (aE s x) a.g) a.t with
 | false=>rfl
 | true=>
  obtain ⟨y,hy,lt⟩:=aJ.mp h;obtain ⟨e,he,le⟩:=(fN (s:=s) (x:=x) g).aa4 a ha y hy lt;rw [aL.mpr ⟨e,he,le⟩];rfl
theorem T4 {a:Int}:∀ {ws:List W3}{st:Fn},(∀ i y,st i=some y->a<=y)->∀ i y,run ws st i=some y->a<=y
 | [],st,h,i,y,e=>h i y e
 | w::ws,st,h,i,y,e=>by
  refine T4 (ws:=ws) (st:=aK st w) (λj z hz=>?_) i y e;unfold aK at hz;split at hz
  ·rename_i c;by_cases ej:j=w.o
   ·rw [ej,wo] at hz;cases hz;obtain ⟨u,hu,lt⟩:=aJ.mp c.2;have:=h _ _ hu;omega
   ·rw [qO ej] at hz;exact h j z hz
  ·exact h j z hz
theorem Sy {s w:Nat}{a e:Int}{ms:List M4}(h:fwd ms (aE s a) w=some e):a<=e:=
 T4 (ws:=aI ms) (λi y e=>by
  unfold aE at e;split at e
  ·cases e;exact zb _
  ·cases e) w e h
end Sm
namespace L2
open PySem PySem.Spec PyProof.Rows
section
variable {X:Cx}
end
end L2
namespace Sm
open PySem L2 bh
theorem NU {α:Type}{xs:List α}{v:α}(h:xs.getLast?=some v):gb xs (-1)=some v:=by
 cases xs with
 | nil=>cases h
 | cons a b=>
  rw [List.getLast?_eq_getElem?] at h;unfold gb;have e:Q8 (a::b).length (-1)=some ((a::b).length - 1):=by
   unfold Q8;simp only [zU];rw [if_neg (by omega)];simp;omega
  rw [e];exact h
end Sm
namespace L2
open PySem
theorem Q9 {c:Bool}{A:Prop}{D:Ends}{σ:St}{H:Hp}(Pre:St->Hp->Prop)(k:∀ σ H,Pre σ H->D.nx σ H)(h1:c=true->(∀ σ H,Pre σ H->D.nx σ H)->A)(h2:c=false->Pre σ H):if c=true then A else gj D σ H:=by
 cases c with
 | true=>exact h1 rfl k
 | false=>exact k _ _ (h2 rfl)
end L2
namespace Sm
open PySem L2 bh
theorem PF {f:Fn}{RI:List W3}(cl:uP RI f=true):∀ {ws:List W3}{st:Fn},(∀ x∈ws,x∈RI)->(∀ i y,st i=some y->aY (f i) y=true)->∀ i y,run ws st i=some y->aY (f i) y=true
 | [],st,_,h,i,y,e=>h i y e
 | w::ws,st,sub,h,i,y,e=>by
  refine PF cl (ws:=ws) (st:=aK st w) (λx hx=>sub x (.tail _ hx)) (λj z hz=>?_) i y e;unfold aK at hz;split at hz
  ·rename_i c;by_cases ej:j=w.o
   ·rw [ej,wo] at hz;cases hz;obtain ⟨u,hu,lt⟩:=aJ.mp c.2;obtain ⟨u',hu',lu⟩:=aL.mp (h _ _ hu);have:=yM.mp cl w (sub w (.head _));rw [aJ.mpr ⟨u',hu',by omega⟩] at this;rw [ej];simpa using this
   ·rw [qO ej] at hz;exact h j z hz
  ·exact h j z hz
def Ze (v:Nat)(m:M4):Nat:=if v=m.lo.toNat then m.hi.toNat else m.lo.toNat
theorem rN {w:Nat}{ms:List M4}{f:Fn}(g:Good w ms)(cl:uP (aI ms) f=true):∀ (ns:List Int) (v:Nat) (t A:Int),aY (f v) t=true->∀ v' t',aR ms v t A ns=some (v',t')->aY (f v') t'=true
 | [],v,t,A,h,v',t',e=>by
  have:=Option.some.inj e;obtain ⟨rfl,rfl⟩:=Prod.mk.inj this;exact h
 | n::ns,v,t,A,h,v',t',e=>by
  obtain ⟨m,hm,h1,h2,h3,h4,wk⟩:=wx e;refine rN g cl ns _ m.t n ?_ v' t' wk;obtain ⟨y,hy,ly⟩:=aL.mp h;have bl:below (f v) m.t=true:=aJ.mpr ⟨y,hy,by omega⟩;have mem:∀ x∈two m,(!(below (f x.g) x.t) || aY (f x.o) x.t)=true:=λx hx=>yM.mp cl x (by
   unfold aI;exact ye.mpr ⟨m,zB hm,hx⟩)
  obtain ⟨a1,a2,_⟩:=g.each m (zB hm);rcases h3 with hv | hv
  ·rw [if_pos hv];have:=mem ⟨m.lo.toNat,m.hi.toNat,m.t⟩ (by unfold two;simp);dsimp only at this;rw [<-hv,bl] at this;simpa using this
  ·rw [if_neg (by omega)];have:=mem ⟨m.hi.toNat,m.lo.toNat,m.t⟩ (by unfold two;simp);dsimp only at this;rw [<-hv,bl] at this;simpa using this
noncomputable def cF (row F:Fn)(x:W3):Fn:=if below (row x.g) x.t=true/\aY (F x.o) x.t=false then put F x.o (some x.t) else F
def OO (ws:List W3)(row:Fn):Fn:=ws.foldl (cF row) row
theorem cR {o:Option Int}{a b:Int}(h:aY o a=true)(l:a<=b):aY o b=true:=by obtain ⟨y,e,ly⟩:=aL.mp h;exact aL.mpr ⟨y,e,by omega⟩
def Le (F G:Fn):Prop:=∀ i y,G i=some y->aY (F i) y=true
theorem Le.refl (F:Fn):Le F F:=λi y h=>aL.mpr ⟨y,h,zb _⟩
theorem Le.trans {F G K:Fn}(a:Le F G)(b:Le G K):Le F K:=λi y h=>by
 obtain ⟨z,e,l⟩:=aL.mp (b i y h);exact cR (a i z e) l
theorem Tt (row F:Fn)(x:W3):Le (cF row F x) F:=λi y h=>by
 unfold cF;split
 ·rename_i c;by_cases e:i=x.o
  ·subst e;rw [wo];have:=c.2;rw [h] at this;have:=of_decide_eq_false this;exact decide_eq_true (by omega)
  ·rw [qO e];exact aL.mpr ⟨y,h,zb _⟩
 ·exact aL.mpr ⟨y,h,zb _⟩
theorem oz (row:Fn):∀ (ws:List W3) (F:Fn),Le (ws.foldl (cF row) F) F
 | [],F=>Le.refl F
 | x::ws,F=>(oz row ws (cF row F x)).trans (Tt row F x)
theorem oB (ws:List W3)(row:Fn):Le (OO ws row) row:=oz row ws row
theorem sH (row:Fn):∀ (ws:List W3) (F:Fn) (x:W3),x∈ws->below (row x.g) x.t=true->aY (ws.foldl (cF row) F x.o) x.t=true
 | w::ws,F,x,hx,hb=>by
  rcases zH.mp hx with rfl | hx
  ·have:aY (cF row F x x.o) x.t=true:=by
    unfold cF;by_cases u:aY (F x.o) x.t=true
    ·rw [if_neg (by rw [u];simp)];exact u
    ·rw [if_pos ⟨hb,by simpa using u⟩,wo];exact decide_eq_true (zb _)
   obtain ⟨y,e,l⟩:=aL.mp this;exact cR (oz row ws (cF row F x) x.o y e) l
  ·exact sH row ws (cF row F w) x hx hb
theorem uv {ws:List W3}{row:Fn}{x:W3}(hx:x∈ws)(hb:below (row x.g) x.t=true):aY (OO ws row x.o) x.t=true:=sH row ws row x hx hb
theorem oA (row:Fn):∀ (ws:List W3) (F:Fn) (i:Nat) (y:Int),ws.foldl (cF row) F i=some y->F i=some y\/∃ x∈ws,x.o=i/\x.t=y/\below (row x.g) y=true
 | [],F,i,y,h=>.inl h
 | w::ws,F,i,y,h=>by
  rcases oA row ws (cF row F w) i y h with h | ⟨x,hx,r⟩
  ·unfold cF at h;split at h
   ·rename_i c;by_cases e:i=w.o
    ·subst e;rw [wo] at h;cases h;exact .inr ⟨w,.head _,rfl,rfl,c.1⟩
    ·rw [qO e] at h;exact .inl h
   ·exact .inl h
  ·exact .inr ⟨x,.tail _ hx,r⟩
theorem oE {ws:List W3}{row:Fn}{i:Nat}{y:Int}(h:OO ws row i=some y):row i=some y\/∃ x∈ws,x.o=i/\x.t=y/\below (row x.g) y=true:=oA row ws row i y h
noncomputable def bD (ws:List W3)(row:Fn):Nat->Fn
 | 0=>row
 | k + 1=>OO ws (bD ws row k)
noncomputable def rk (ws:List W3):Option Int->Nat
 | none=>ws.length + 1
 | some y=>ws.countP λx=>decide (x.t < y)
theorem rZ {ws:List W3}{x:W3}(hx:x∈ws){o:Option Int}(h:aY o x.t=false):rk ws (some x.t) < rk ws o:=by
 cases o with
 | none=>
  show ws.countP _ < ws.length + 1;exact Nat.lt_succ_of_le yy
 | some y=>
  have lt:x.t < y:=by have:=of_decide_eq_false h;omega
  show ws.countP (λw=>decide (w.t < x.t)) < ws.countP (λw=>decide (w.t < y));induction ws with
  | nil=>cases hx
  | cons w ws ih=>
   rw [List.countP_cons,List.countP_cons];have mono:ws.countP (λw=>decide (w.t < x.t))<=ws.countP (λw=>decide (w.t < y)):=List.countP_mono_left λw _ h=>decide_eq_true (by have:=of_decide_eq_true h;omega);rcases zH.mp hx with rfl | hx
   ·rw [if_neg (by simp),if_pos (decide_eq_true lt)];omega
   ·have:=ih hx;by_cases c:w.t < x.t
    ·rw [if_pos (decide_eq_true c),if_pos (decide_eq_true (by omega))];omega
    ·rw [if_neg (by simpa using c)];split <;> omega
theorem ZY {ws:List W3}{o o':Option Int}(h:∀ y,o'=some y->aY o y=true):rk ws o<=rk ws o':=by
 cases o' with
 | none=>
  cases o with
  | none=>exact zD _
  | some y=>exact Nat.le_succ_of_le yy
 | some y=>
  obtain ⟨z,rfl,l⟩:=aL.mp (h y rfl);exact List.countP_mono_left λw _ h=>decide_eq_true (by have:=of_decide_eq_true h;omega)
noncomputable def QT (ws:List W3)(n:Nat)(F:Fn):Nat:=((List.range n).map λi=>rk ws (F i)).sum
theorem Xs {n:Nat}{f g:Nat->Nat}(le:∀ i,i < n->f i<=g i){k:Nat}(hk:k < n)(lt:f k < g k):((List.range n).map f).sum < ((List.range n).map g).sum:=by
 induction n with
 | zero=>omega
 | succ n ih=>
  rw [yj,zE,zE,xl,xl];have mono:((List.range n).map f).sum<=((List.range n).map g).sum:=by
   clear ih hk lt;induction n with
   | zero=>exact zD _
   | succ n ih2=>
    rw [yj,zE,zE,xl,xl];have:=ih2 λi hi=>le i (by omega);have:=le n (by omega);simp only [zc,yN,List.sum_cons,List.sum_nil];omega
  simp only [zc,yN,List.sum_cons,List.sum_nil];by_cases e:k=n
  ·subst e;omega
  ·have:=ih (λi hi=>le i (by omega)) (by omega);have:=le n (by omega);omega
theorem X4 {ws:List W3}{n:Nat}{F:Fn}{k:Nat}(hk:k < n)(ne:OO ws F k≠F k):QT ws n (OO ws F) < QT ws n F:=by
 refine Xs (λi _=>ZY λy h=>oB ws F i y h) hk ?_;cases e:OO ws F k with
 | none=>
  cases e2:F k with
  | none=>exact absurd (e.trans e2.symm) ne
  | some y=>have:=oB ws F k y e2;rw [e] at this;cases this
 | some y=>
  rcases oE e with h | ⟨x,hx,rfl,rfl,hb⟩
  ·exact absurd (e.trans h.symm) ne
  ·refine rZ hx ?_;cases e2:F x.o with
   | none=>rfl
   | some z=>
    have:=oB ws F x.o z e2;rw [e] at this;have le:x.t<=z:=of_decide_eq_true this;have:x.t≠z:=λh=>ne (by rw [e,e2,h]);exact decide_eq_false (by omega)
theorem VH (ws:List W3)(n:Nat)(F:Fn):QT ws n F<=n * (ws.length + 1):=by
 unfold QT;induction n with
 | zero=>simp
 | succ n ih=>
  rw [yj,zE,xl,yV];simp only [zc,yN,List.sum_cons,List.sum_nil];have:rk ws (F n)<=ws.length + 1:=by
   cases F n with
   | none=>exact zD _
   | some y=>exact Nat.le_succ_of_le yy
  omega
end Sm
namespace L2
open PySem PySem.Spec PyProof.Rows
open AutoSeq1 (wpAny_loadPart')
theorem range_zero {β:Type}(init:β)(f:Nat->β->Sem (ForInStep β)):forIn [:0] init f=(pure init:Sem β):=by rw [Std.Legacy.Range.forIn_eq_forIn_range'];rfl
section
variable {X:Cx}
end
end L2
namespace Sm
open PySem L2 bh
end Sm
namespace L2
open PySem
end L2
namespace Sm
open PySem L2
end Sm
namespace Sm
open PySem L2 bh
theorem rJ {n:Nat}{ms:List M4}(g:Good n ms){m:M4}{k:Nat}(hm:ms[k]?=some m):∀ {ns:List Int}{v v':Nat}{t t' A:Int},aR ms v t A ns=some (v',t')->(A=-1\/∃ i:Nat,∃ mi,A=i/\ms[i]?=some mi/\mi.t<=t)->(v'=m.lo.toNat\/v'=m.hi.toNat)->t' < m.t->aR ms v t A (ns++[(k:Int)])=some (Ze v' m,m.t)
 | [],v,v',t,t',A,h,hA,hv,ht=>by
  have:=Option.some.inj h;obtain ⟨rfl,rfl⟩:=Prod.mk.inj this;have an:A < k:=by
   rcases hA with rfl | ⟨k',m',rfl,gG,lt'⟩
   ·omega
   ·have:=ux g.ord.2 gG hm (by omega);omega
  show aR ms v t A [(k:Int)]=_;unfold aR;rw [zk,hm];dsimp only;rw [if_pos ⟨an,by omega,hv,ht⟩];rfl
 | n0::ns,v,v',t,t',A,h,hA,hv,ht=>by
  obtain ⟨m0,hm0,h1,h2,h3,h4,wk⟩:=wx h;obtain ⟨j,rfl⟩:=zm h2;rw [zk] at hm0;show aR ms v t A ((j:Int)::(ns++[(k:Int)]))=_;unfold aR;rw [zk,hm0];dsimp only;rw [if_pos ⟨h1,h2,h3,h4⟩];exact rJ g hm wk (.inr ⟨j,m0,rfl,hm0,zb _⟩) hv ht
noncomputable def Vf:Sp:=λvs H Q _=>∃ b la aa tr tm ps,∃ f:Fn,vs=[.ref b,.ref la]/\aO H b aa tr tm ps/\aa.length<=1000/\Good aa.length (ps.map (·.2))/\H la=some (.lst ((rep aa.length f).map oV))/\∀ l H',H l=none->aG H H'->H' l=some (.lst ((rep aa.length (OO (aI (ps.map (·.2))) f)).map oV))->Q (.ref l) H'
structure Rows (H0 H:Hp) (ms:List M4) (n k:Nat) (x:Int) (as:List Addr):Prop where
 pos:as≠[]
 gH:as.length<=200000
 at':∀ (i:Nat) (a:Addr),as[i]?=some a->H0 a=none/\H a=some (.lst ((rep n (bD (aI ms) (aE k x) i)).map oV))
 ne:∀ i,i + 1 < as.length->rep n (bD (aI ms) (aE k x) (i + 1))≠rep n (bD (aI ms) (aE k x) i)
 last:rep n (bD (aI ms) (aE k x) as.length)=rep n (bD (aI ms) (aE k x) (as.length - 1))
noncomputable def Sh:Sp:=λvs H Q _=>∃ b,∃ k:Nat,∃ x aa tr tm ps,vs=[.ref b,.int k,.int x]/\aO H b aa tr tm ps/\aa.length<=1000/\Good aa.length (ps.map (·.2))/\∀ l as H',H l=none->aG H H'->H' l=some (.lst (as.map V.ref))->Rows H H' (ps.map (·.2)) aa.length k x as->Q (.ref l) H'
end Sm
namespace L2
open PySem PySem.Spec PyProof.Rows
section
variable {K:PySem.W.Frag}{a:Addr}{xs:List V}{n:Nat}{caps:List Nat}{g:TG}{tc:TT}{te:TE}{σ:St}{H:Hp}{Qf:Addr->Hp->List V->Prop}
theorem NC {J:It}(Pv:Nat->St->List V->Hp->Prop)(len:Nat)(h0:Pv 0 (dW n caps σ) [] H)(hn:len<=200000)(hl:∀ i τ acc H,Pv i τ acc H->acc.length<=i)
  (hgo:∀ i τ acc H,i < len->Pv i τ acc H->J.go i H) (TH:∀ τ acc H,Pv len τ acc H->J.stop len H)
  (hs:∀ i τ acc H (C:St->List V->Hp->Prop),i < len->Pv i τ acc H->(∀ τ acc H,Pv (i + 1) τ acc H->C τ acc H)->∀ x H',J.tG i H x H'->g x τ H' fun bR H2=>tc bR H2 λb H3=>if b=true then te bR H3 λy H4=>C bR (acc++[y]) H4 else C bR acc H3)
  (hd:∀ τ acc H,Pv len τ acc H->∀ p,H p=none->Qf p H acc) :
  ∃ W:Nat->Nat->St->List V->Hp->Prop,(∃ m,W 0 m (dW n caps σ) [] H)/\∀ i m τ acc H,W i m τ acc H ->
   (J.stop i H/\acc.length<=sizeLine/\∀ p,H p=none->Qf p H acc) \/
   (J.go i H/\acc.length < sizeLine/\∀ x H',J.tG i H x H'->g x τ H' fun bR H2=>tc bR H2 λb H3=>if b=true then te bR H3 λy H4=>∃ m',m' < m/\W (i + 1) m' bR (acc++[y]) H4 else ∃ m',m' < m/\W (i + 1) m' bR acc H3):=by
 have line:200001<=sizeLine:=by rw [sizeLine_eq];decide
 refine ⟨λi m τ acc H=>m=len - i/\i<=len/\Pv i τ acc H,⟨len,by simp,za _,h0⟩,?_⟩;rintro i m τ acc H ⟨rfl,hi,p⟩;have q:=hl i τ acc H p;by_cases c8:i < len
 ·exact .inr ⟨hgo i τ acc H c8 p,by omega,λx H' y=>hs i τ acc H (fun τ acc H=>∃ m',m' < len - i/\m'=len - (i + 1)/\i + 1<=len/\Pv (i + 1) τ acc H) c8 p (fun τ acc H p'=>⟨len - (i + 1),by omega,rfl,c8,p'⟩) x H' y⟩
 ·have e:i=len:=by omega
  subst e;exact .inl ⟨TH τ acc H p,by omega,hd τ acc H p⟩
theorem O2 (Pv:Nat->St->List V->Hp->Prop)(h0:Pv 0 (dW n caps σ) [] H)(hn:xs.length<=200000)(hl:∀ i τ acc H,Pv i τ acc H->acc.length<=i/\aU K H a xs)
  (hs:∀ i x τ acc H (C:St->List V->Hp->Prop),xs[i]?=some x->Pv i τ acc H->(∀ τ acc H,Pv (i + 1) τ acc H->C τ acc H)->g x τ H fun bR H2=>tc bR H2 λb H3=>if b=true then te bR H3 λy H4=>C bR (acc++[y]) H4 else C bR acc H3)
  (hd:∀ τ acc H,Pv xs.length τ acc H->∀ p,H p=none->Qf p H acc) :
  ∃ W:Nat->Nat->St->List V->Hp->Prop,(∃ m,W 0 m (dW n caps σ) [] H)/\∀ i m τ acc H,W i m τ acc H ->
   ((RE K a).stop i H/\acc.length<=sizeLine/\∀ p,H p=none->Qf p H acc) \/
   ((RE K a).go i H/\acc.length < sizeLine/\∀ x H',(RE K a).tG i H x H'->g x τ H' fun bR H2=>tc bR H2 λb H3=>if b=true then te bR H3 λy H4=>∃ m',m' < m/\W (i + 1) m' bR (acc++[y]) H4 else ∃ m',m' < m/\W (i + 1) m' bR acc H3):=
 NC (J:=RE K a) Pv xs.length h0 hn (λi τ acc H p=>(hl i τ acc H p).1) (λi τ acc H hi p=>⟨xs,xs[i],(hl i τ acc H p).2,by simp [hi]⟩) (fun τ acc H p=>⟨xs,(hl _ τ acc H p).2,zD _⟩)
  (λi τ acc H C hi p c x H' y=>by obtain ⟨e,y⟩:=y;subst e;exact hs i x τ acc _ C (y xs (hl i τ acc _ p).2) p c) hd
end
end L2
namespace Sm
open PySem L2 bh
theorem VP {n:Nat}{ms:List M4}(g:Good n ms){row:Fn}{i:Nat}(hi:n<=i):OO (aI ms) row i=row i:=by
 cases e:OO (aI ms) row i with
 | none=>
  cases e2:row i with
  | none=>rfl
  | some y=>have:=oB (aI ms) row i y e2;rw [e] at this;cases this
 | some y=>
  rcases oE e with h | ⟨x,hx,rfl,_⟩
  ·exact h.symm
  ·obtain ⟨g1,g2,g3,g4,g5⟩:=qa g hx;omega
end Sm
namespace Sm
open PySem L2
end Sm
namespace Sm
open PySem L2 bh
theorem nZ:∀ (n:Nat) (vs:List Nat),vs.Nodup->(∀ v∈vs,v < n)->vs.length<=n
 | 0,vs,_,h=>by
  cases vs with
  | nil=>exact zD _
  | cons v vs=>exact absurd (h v (.head _)) (yB _)
 | n + 1,vs,nd,h=>by
  by_cases hn:n∈vs
  ·have ih:=nZ n (vs.erase n) (nd.erase n) λv hv=>by
    have:=(List.Nodup.mem_erase_iff nd).mp hv;have:=h v this.2;omega
   rw [List.length_erase_of_mem hn] at ih;omega
  ·have:=nZ n vs nd λv hv=>by
    have:=h v hv;have:v≠n:=λe=>hn (e ▸ hv);omega
   omega
noncomputable def jX (ws:List W3)(r:Fn)(i v:Nat)(T:Int):Prop:=bD ws r i v=some T/\(i=0\/aY (bD ws r (i - 1) v) T=false)
theorem jX.back {ws:List W3}{r:Fn}{i v:Nat}{T:Int}(h:jX ws r (i + 1) v T):∃ x∈ws,x.o=v/\x.t=T/\∃ y,y < T/\jX ws r i x.g y:=by
 obtain ⟨h1,h2⟩:=h;have h2:aY (bD ws r i v) T=false:=h2.resolve_left (by omega);rcases oE h1 with h | ⟨x,hx,rfl,rfl,hb⟩
 ·rw [h] at h2;exact absurd (of_decide_eq_false h2) (by omega)
 ·obtain ⟨y,hy,lt⟩:=aJ.mp hb;refine ⟨x,hx,rfl,rfl,y,lt,hy,?_⟩;cases i with
  | zero=>exact .inl rfl
  | succ i=>
   refine .inr ?_;cases e:aY (bD ws r i x.g) y with
   | false=>exact e
   | true=>
    obtain ⟨z,hz,lz⟩:=aL.mp e;have:aY (OO ws (bD ws r i) x.o) x.t=true:=uv hx (aJ.mpr ⟨z,hz,by omega⟩);exact absurd (h2.symm.trans this) (by decide)
theorem jX.gH {n:Nat}{ms:List M4}(g:Good n ms){r:Fn}:∀ {i v:Nat}{T:Int},v < n->jX (aI ms) r i v T->∃ vs:List Nat,vs.length=i + 1/\vs.Nodup/\∀ u∈vs,u < n/\aY (bD (aI ms) r i u) T=true
 | 0,v,T,hv,h=>⟨[v],rfl,by simp,λu hu=>by
   cases zJ.mp hu;exact ⟨hv,aL.mpr ⟨T,h.1,zb _⟩⟩⟩
 | i + 1,v,T,hv,h=>by
  obtain ⟨x,hx,rfl,rfl,y,lt,hn⟩:=h.back;obtain ⟨g1,g2,_⟩:=qa g hx;obtain ⟨vs,l,nd,al⟩:=jX.gH g (by omega) hn;refine ⟨x.o::vs,by rw [zU,l],zw.mpr ⟨λhm=>?_,nd⟩,λu hu=>?_⟩
  ·have:=cR (al _ hm).2 (Int.le_of_lt lt);exact absurd ((h.2.resolve_left (by omega)).symm.trans this) (by decide)
  ·rcases zH.mp hu with rfl | hu
   ·exact ⟨hv,aL.mpr ⟨_,h.1,zb _⟩⟩
   ·obtain ⟨a1,a2⟩:=al u hu;obtain ⟨z,hz,lz⟩:=aL.mp a2;exact ⟨a1,cR (oB (aI ms) _ u z hz) (by omega)⟩
theorem S7 {ws:List W3}{r:Fn}{m w:Nat}{z:Int}(h:aY (bD ws r m w) z=true)(least:∀ i,i < m->aY (bD ws r i w) z=false):∃ T,T<=z/\jX ws r m w T:=by
 obtain ⟨T,hT,le⟩:=aL.mp h;refine ⟨T,le,hT,?_⟩;cases m with
 | zero=>exact .inl rfl
 | succ m=>
  refine .inr ?_;cases e:aY (bD ws r m w) T with
  | false=>exact e
  | true=>exact absurd ((least m (by omega)).symm.trans (cR e le)) (by decide)
theorem YK {n m w:Nat}{z:Int}{ms:List M4}(g:Good n ms){r:Fn}(hw:w < n)(h:aY (bD (aI ms) r m w) z=true)(least:∀ i,i < m->aY (bD (aI ms) r i w) z=false):m < n:=by obtain ⟨T,_,hN⟩:=S7 h least;obtain ⟨vs,l,nd,al⟩:=hN.gH g hw;have:=nZ n vs nd λv hv=>(al v hv).1;omega
theorem Q7 {n k m:Nat}{x:Int}{ms:List M4}(g:Good n ms)(h:rep n (bD (aI ms) (aE k x) (m + 1))=rep n (bD (aI ms) (aE k x) m)):∀ i,m<=i->bD (aI ms) (aE k x) i=bD (aI ms) (aE k x) m:=by
 have fx:OO (aI ms) (bD (aI ms) (aE k x) m)=bD (aI ms) (aE k x) m:=funext λi=>by
  by_cases hi:i < n
  ·exact SJ.mp h i hi
  ·exact VP g (Nat.le_of_not_lt hi)
 intro i hi;induction i with
 | zero=>rw [show m=0 by omega]
 | succ i ih=>
  rcases xQ i m with l | l
  ·rw [show m=i + 1 by omega]
  ·show OO (aI ms) (bD (aI ms) (aE k x) i)=_;rw [ih l,fx]
noncomputable def pP (ms:List M4)(s:Nat)(a:Int)(w:Nat)(z:Int)(m:Nat):Prop:=aY (bD (aI ms) (aE s a) m w) z=true/\∀ i,i < m->aY (bD (aI ms) (aE s a) i w) z=false
theorem Tn (ms:List M4)(s:Nat)(a:Int)(w:Nat)(z:Int):(∃ m,pP ms s a w z m)\/∀ i,aY (bD (aI ms) (aE s a) i w) z=false:=by
 by_cases h:∃ i,aY (bD (aI ms) (aE s a) i w) z=true
 ·obtain ⟨i,hi⟩:=h;left;induction i using Nat.strongRecOn with
  | _ i ih=>
   by_cases h2:∃ j,j < i/\aY (bD (aI ms) (aE s a) j w) z=true
   ·obtain ⟨j,hj,e⟩:=h2;exact ih j hj e
   ·exact ⟨i,hi,λj hj=>by
     cases e:aY (bD (aI ms) (aE s a) j w) z with
     | false=>rfl
     | true=>exact absurd ⟨j,hj,e⟩ h2⟩
 ·right;intro i;cases e:aY (bD (aI ms) (aE s a) i w) z with
  | false=>rfl
  | true=>exact absurd ⟨i,e⟩ h
theorem fO.turn {ms:List M4}{n g o:Nat}{t:Int}(h:fO ms n g o t):fO ms n o g t:=by obtain ⟨m,a,b,c⟩:=h;exact ⟨m,a,b,c.symm⟩
theorem vh {ms:List M4}{x:W3}(h:x∈aI ms):∃ n,fO ms n x.g x.o x.t:=by rw [<-ie] at h;obtain ⟨y,hy,rfl⟩:=zK.mp h;exact ⟨y.n,dF hy⟩
theorem rH {ms:List M4}{n:Nat}{m:M4}(hm:ms[n]?=some m):∀ i,n < i->(⟨n,⟨m.lo.toNat,m.hi.toNat,m.t⟩⟩:W4)∈cM ms i/\(⟨n,⟨m.hi.toNat,m.lo.toNat,m.t⟩⟩:W4)∈cM ms i
 | 0,h=>absurd h (yB _)
 | i + 1,h=>by
  unfold cM;rcases xQ n i with l | l
  ·have:=rH hm i l;exact ⟨z4 _ this.1,z4 _ this.2⟩
  ·have e:n=i:=by omega
   subst e;rw [hm];exact ⟨zQ _ (.head _),zQ _ (.tail _ (.head _))⟩
theorem VL {ms:List M4}{n g o:Nat}{t:Int}(h:fO ms n g o t):(⟨n,⟨g,o,t⟩⟩:W4)∈cM ms ms.length:=by
 obtain ⟨m,hm,rfl,h⟩:=h;have:=rH hm ms.length (zC.mp hm).1;rcases h with ⟨rfl,rfl⟩ | ⟨rfl,rfl⟩
 ·exact this.1
 ·exact this.2
theorem fO.uniq {w:Int}{ms:List M4}(gd:Good w ms){n n' v g g':Nat}{t:Int}(h:fO ms n v g t)(h':fO ms n' v g' t):n=n':=by
 obtain ⟨m,hm,e,c⟩:=h;obtain ⟨m',gG,e',c'⟩:=h';have key:∀ (a b:M4),a∈ms->b∈ms->apart a b->(a.lo.toNat=v\/a.hi.toNat=v)->(b.lo.toNat=v\/b.hi.toNat=v)->False:=λa b ha hb ap ca cb=>by
  obtain ⟨a1,a2,_⟩:=gd.each a ha;obtain ⟨b1,b2,_⟩:=gd.each b hb;obtain ⟨p1,p2,p3,p4⟩:=ap;rcases ca with ca | ca <;> rcases cb with cb | cb <;> omega
 have cm:m.lo.toNat=v\/m.hi.toNat=v:=by rcases c with c | c;exact .inl c.1;exact .inr c.2
 have cm':m'.lo.toNat=v\/m'.hi.toNat=v:=by rcases c' with c | c;exact .inl c.1;exact .inr c.2
 obtain ⟨l,el⟩:=zC.mp hm;obtain ⟨l',el'⟩:=zC.mp gG;rcases Nat.lt_trichotomy n n' with lt | q | lt
 ·have:=zl.mp gd.order n n' l l' lt;rw [el,el'] at this;rcases this with h | ⟨_,_,ap⟩
  ·omega
  ·exact (key m m' (zB hm) (zB gG) ap cm cm').elim
 ·exact q
 ·have:=zl.mp gd.order n' n l' l lt;rw [el,el'] at this;rcases this with h | ⟨_,_,ap⟩
  ·omega
  ·exact (key m' m (zB gG) (zB hm) ap cm' cm).elim
theorem fO.other {w:Int}{ms:List M4}(gd:Good w ms){n v g:Nat}{t:Int}{m:M4}(h:fO ms n v g t)(hm:ms[n]?=some m):(if (v:Int)=m.lo then m.hi else m.lo)=(g:Int):=by
 obtain ⟨m',gG,_,c⟩:=h;rw [hm] at gG;cases gG;obtain ⟨a1,a2,_⟩:=gd.each m (zB hm);rcases c with ⟨c1,c2⟩ | ⟨c1,c2⟩
 ·rw [if_pos (by omega)];omega
 ·rw [if_neg (by omega)];omega
noncomputable def Sj:Sp:=λvs H Q _=>∃ b,∃ v n g:Nat,∃ t aa tr tm ps,vs=[.ref b,.int v,.int t]/\aO H b aa tr tm ps/\Good aa.length (ps.map (·.2))/\fO (ps.map (·.2)) n v g t/\∀ H',aG H H'->Q (.int n) H'
noncomputable def Ss:Sp:=λvs H Q _=>∃ b l,∃ w s m:Nat,∃ a t aa tr tm ps,∃ as:List Addr,vs=[.ref b,.ref l,.int w]/\aO H b aa tr tm ps/\Good aa.length (ps.map (·.2))/\w < aa.length/\m<=1000/\H l=some (.lst (as.map V.ref))/\as.length=m /\
 (∀ (i:Nat) (c:Addr),as[i]?=some c->H c=some (.lst ((rep aa.length (bD (aI (ps.map (·.2))) (aE s a) (i + 1))).map oV)))/\jX (aI (ps.map (·.2))) (aE s a) m w t /\
 ∀ lr cs H',H lr=none->aG H H'->H' lr=some (.lst (List.map V.int cs))->cs.length=m->aR (ps.map (·.2)) s a (-1) cs=some (w,t)->Q (.ref lr) H'
noncomputable def Va:Sp:=λvs H Q _=>∃ b lt,∃ s w:Nat,∃ a z aa tr tm ps,vs=[.ref b,.ref lt]/\aO H b aa tr tm ps/\aa.length<=1000/\Good aa.length (ps.map (·.2))/\cQ H lt aa.length s w a z /\
 ((∀ i,aY (bD (aI (ps.map (·.2))) (aE s a) i w) z=false)->∀ H',aG H H'->Q .bL H') /\
 ∀ m lr cs e H',pP (ps.map (·.2)) s a w z m->H lr=none->aG H H'->H' lr=some (.lst (List.map V.int cs))->cs.length=m->e<=z->aR (ps.map (·.2)) s a (-1) cs=some (w,e)->Q (.ref lr) H'
theorem Wl (xs:List V)(i:Nat)(h:i < xs.length):uN xs (some 1) (some ((i:Int) + 1))=(xs.drop 1).take i:=by
 have e:((i:Int) + 1)=((i + 1:Nat):Int):=by omega
 rw [e,show (some (1:Int))=some ((1:Nat):Int) from rfl];unfold uN;rw [HT.mH,HT.mH];show (xs.drop (min 1 xs.length)).take (min (i + 1) xs.length - min 1 xs.length)=_;rw [Nat.min_eq_left (by omega),Nat.min_eq_left (by omega),Nat.add_sub_cancel]
noncomputable def again (ms:List M4)(day first:Int):Nat->List M4
 | 0=>[]
 | r + 1=>again ms day first r++ms.map (M4.jJ ((first + r) * day))
theorem f6 (a b:List M4)(st:Fn):fwd (a++b) st=fwd b (fwd a st):=by unfold fwd aI;rw [xJ,yP]
end Sm
namespace L2
open PySem PySem.Spec PyProof.Rows
section
variable {X:Cx}{af:List (Addr×Obj)}{σ:St}{H:Hp}{s:Shared}
theorem dw {xs:List V}{us:List Value}(r:Vals xs us){j:Nat}(h:j < us.toArray.size):∃ x,xs[j]?=some x/\RelV x us.toArray[j]:=by
 have hl:=r.length;simp only [zR] at h;have a1:j < xs.length:=by omega
 obtain ⟨u,eu,ru⟩:=r.get (i:=j) (x:=xs[j]) (by simp [a1]);have e1:us.toArray[j]=u:=by rw [List.getElem_toArray];exact Option.some.inj ((zO h).symm.trans eu)
 exact ⟨xs[j],by simp [a1],by rw [e1];exact ru⟩
end
noncomputable def Eqv (K:PySem.W.Frag)(H:Hp):Nat->V->V->Bool->Prop
 | 0,x,y,b=>(x=y/\(∃ a,x=.ref a)/\b=true)\/(cG x=true/\cG y=true/\b=sQ x y)
 | n + 1,x,y,b=>(x=y/\(∃ a,x=.ref a)/\b=true)\/(cG x=true/\cG y=true/\b=sQ x y)\/∃ (a c:Addr) (xs ys:List V) (e:Nat->Bool),x=.ref a/\y=.ref c/\((aU K H a xs/\aU K H c ys)\/(bS K H a xs/\bS K H c ys))/\(a=c->b=true)/\b=(decide (xs.length=ys.length) && (List.range xs.length).all e)/\∀ (i:Nat) (x y:V),xs[i]?=some x->ys[i]?=some y->Eqv K H n x y (e i)
section
variable {X:Cx}{af:List (Addr×Obj)}{σ:St}{H:Hp}{s:Shared}
theorem oU {A:Around}{x y:V}{b:Bool}{u v:Value}(h:(x=y/\(∃ a,x=.ref a)/\b=true)\/(cG x=true/\cG y=true/\b=sQ x y))(ru:RelV x u)(rv:RelV y v):SeqAt.EqAt A s u v b:=by
 rcases h with ⟨rfl,⟨a,rfl⟩,rfl⟩ | ⟨h1,h2,rfl⟩
 ·cases ru;cases rv;exact SeqAt.EqAt.same _
 ·exact O0 (A:=A) (s:=s) ru rv h1 h2
theorem OZ (I:Inv X af σ H s):∀ (n:Nat) {A:Around}{x y:V}{b:Bool}{u v:Value},A.units + n < cLine->Eqv X.K H n x y b->RelV x u->RelV y v->SeqAt.EqAt A s u v b:=by
 intro n;induction n with
 | zero=>intro A x y b u v hu h ru rv;exact oU h ru rv
 | succ n ih=>
  intro A x y b u v hu h ru rv;rcases h with h | h | ⟨a,c,xs,ys,e,rfl,rfl,h,hs,hb,hi⟩
  ·exact oU (.inl h) ru rv
  ·exact oU (.inr h) ru rv
  ·cases ru;cases rv;by_cases ne:a=c
   ·rw [hs ne,ne];exact SeqAt.EqAt.same _
   refine SeqAt.EqAt.of_refs ne ?_;have Yr:(A.units + 1) + n < cLine:=by omega
   rcases h with ⟨h1,h2⟩ | ⟨h1,h2⟩
   ·obtain ⟨aH,r1,p1,_⟩:=I.list h1;obtain ⟨dO,r2,p2,_⟩:=I.list h2;have l1:=r1.length;have l2:=r2.length;by_cases hl:xs.length=ys.length
    ·have:=SeqAt.RcAt.lists (A:=A) (e:=e) p1.isList p2.isList (by simp;omega) (by omega) λj h1 h2=>by
      obtain ⟨x,ex,rx⟩:=dw r1 h1;obtain ⟨y,ey,ry⟩:=dw r2 h2;exact ih Yr (hi j x y ex ey) rx ry
     rw [hb,decide_eq_true hl,Bool.true_and,l1];simpa using this
    ·rw [hb,decide_eq_false hl,yx];exact SeqAt.RcAt.lists_lengths (A:=A) p1.isList p2.isList (by simp;omega) (by omega)
   ·obtain ⟨aH,r1,p1,_⟩:=I.tuple h1;obtain ⟨dO,r2,p2,_⟩:=I.tuple h2;have l1:=r1.length;have l2:=r2.length;have:=SeqAt.RcAt.tuples (A:=A) (e:=e) p1 p2 (by omega) λj h1 h2=>by
     obtain ⟨x,ex,rx⟩:=dw r1 h1;obtain ⟨y,ey,ry⟩:=dw r2 h2;exact ih Yr (hi j x y ex ey) rx ry
    by_cases hl:xs.length=ys.length
    ·rw [hb,decide_eq_true hl,Bool.true_and,l1];have e1:dO.length=aH.length:=by omega
     simpa [e1] using this
    ·rw [hb,decide_eq_false hl,yx];have e1:¬ aH.length=dO.length:=by omega
     have e2:(aH.toArray.size == dO.toArray.size)=false:=by simp [e1]
     rw [e2,xW] at this;exact this
noncomputable def Vs (K:PySem.W.Frag)(neg:Bool):R2:=λx y H Q=>∃ (n:Nat) (a c:Addr) (xs ys:List V) (e:Nat->Bool) (b:Bool),n<=20/\x=.ref a/\y=.ref c/\((aU K H a xs/\aU K H c ys)\/(bS K H a xs/\bS K H c ys))/\b=(decide (xs.length=ys.length) && (List.range xs.length).all e)/\(∀ (i:Nat) (x y:V),xs[i]?=some x->ys[i]?=some y->Eqv K H n x y (e i))/\Q (.bl (if neg then !b else b)) H
theorem uh (hu:X.A.units + 64 < cLine):gI X (compareOp .NotEq) (Vs X.K true):=by
 intro af s σ H x y v u Q I rx ry h;obtain ⟨n,a,c,xs,ys,e,b,hn,rfl,rfl,h,hb,hi,q⟩:=h;cases rx;cases ry;rw [if_pos rfl,hb] at q;rcases h with ⟨h1,h2⟩ | ⟨h1,h2⟩
 ·obtain ⟨aH,r1,p1,_⟩:=I.list h1;obtain ⟨dO,r2,p2,_⟩:=I.list h2;have l1:=r1.length;have l2:=r2.length;by_cases hl:xs.length=ys.length
  ·rw [decide_eq_true hl,Bool.true_and,l1] at q;exact SeqAt.RcNeAt.lists (e:=e) p1.isList p2.isList (by simp;omega) (by omega) (λj h1 h2=>by
    obtain ⟨x,ex,rx⟩:=dw r1 h1;obtain ⟨y,ey,ry⟩:=dw r2 h2;exact OZ I n (by show X.A.units + 1 + n < cLine;omega) (hi j x y ex ey) rx ry) _ _ _ _ ⟨.bl _,H,I,rfl,by simpa using q⟩
  ·rw [decide_eq_false hl,yx] at q;exact SeqAt.RcNeAt.lists_lengths p1.isList p2.isList (by simp;omega) (by omega) _ _ _ _ ⟨.bl _,H,I,rfl,q⟩
 ·obtain ⟨aH,r1,p1,_⟩:=I.tuple h1;obtain ⟨dO,r2,p2,_⟩:=I.tuple h2;have l1:=r1.length;have l2:=r2.length;have key:((List.range (min aH.toArray.size dO.toArray.size)).all e && aH.toArray.size == dO.toArray.size)=(decide (xs.length=ys.length) && (List.range xs.length).all e):=by
   by_cases hl:xs.length=ys.length
   ·have e1:dO.length=aH.length:=by omega
    rw [decide_eq_true hl,Bool.true_and,l1];simp [e1]
   ·have e1:¬ aH.length=dO.length:=by omega
    rw [decide_eq_false hl,yx];simp [e1]
  rw [<-key] at q;exact SeqAt.RcNeAt.tuples (e:=e) p1 p2 (by omega) (λj h1 h2=>by
   obtain ⟨x,ex,rx⟩:=dw r1 h1;obtain ⟨y,ey,ry⟩:=dw r2 h2;exact OZ I n (by show X.A.units + 1 + n < cLine;omega) (hi j x y ex ey) rx ry) _ _ _ _ ⟨.bl _,H,I,rfl,q⟩
end
theorem Eqv.rows {α:Type}[DecidableEq α]{f:α->V}(hf:∀ x,cG (f x)=true)(he:∀ x y,sQ (f x) (f y)=decide (x=y)){K:PySem.W.Frag}{H:Hp}{n:Nat}{a c:Addr}{xs ys:List α}(h:(H a=some (.lst (xs.map f))/\H c=some (.lst (ys.map f)))\/(H a=some (.tup (xs.map f))/\H c=some (.tup (ys.map f)))):Eqv K H (n + 1) (.ref a) (.ref c) (decide (xs=ys)):=by
 have fi:∀ x y,f x=f y->x=y:=λx y e=>by
  have:=he x y;rw [e,he y y] at this;simpa using this.symm
 have inj:∀ {l m:List α},l.map f=m.map f->l=m:=λ{l m} e=>List.map_inj_right (λx y=>fi x y) |>.mp e;refine .inr (.inr ⟨a,c,xs.map f,ys.map f,λi=>decide (xs[i]?=ys[i]?),rfl,rfl,h.imp (λh=>⟨aU.of h.1,aU.of h.2⟩) (λh=>⟨bS.of h.1,bS.of h.2⟩),λe=>?_,?_,λi x y hx hy=>?_⟩)
 ·subst e;rw [decide_eq_true_eq];rcases h with ⟨h1,h2⟩ | ⟨h1,h2⟩
  ·rw [h1] at h2;injection h2 with h2;injection h2 with h2;exact inj h2
  ·rw [h1] at h2;injection h2 with h2;injection h2 with h2;exact inj h2
 ·rw [zA,zA];by_cases hl:xs.length=ys.length
  ·rw [decide_eq_true hl,Bool.true_and]
   symm
   refine all_range ?_;simp only [decide_eq_true_eq];constructor
   ·intro h;apply List.ext_getElem?
    intro j;by_cases hj:j < xs.length
    ·exact h j hj
    ·rw [yZ (by omega),yZ (by omega)]
   ·rintro rfl j _;rfl
  ·rw [decide_eq_false hl,yx,decide_eq_false_iff_not];rintro rfl;exact hl rfl
 ·rw [zS] at hx hy;cases e1:xs[i]? with
  | none=>rw [e1] at hx;cases hx
  | some p=>
   cases e2:ys[i]? with
   | none=>rw [e2] at hy;cases hy
   | some q=>
    rw [e1] at hx;rw [e2] at hy;cases hx;cases hy;have key:cG (f p)=true/\cG (f q)=true/\decide (some p=some q)=sQ (f p) (f q):=⟨hf p,hf q,by
     rw [he];simp⟩
    cases n with
    | zero=>exact .inr (by simpa only [e1,e2] using key)
    | succ n=>exact .inr (.inl (by simpa only [e1,e2] using key))
theorem jQ (x y:Int):sQ (.int x) (.int y)=decide (x=y):=rfl
section
variable {X:Cx}
theorem kQ:∀ {ns:List Int}{aH:List Value},Vals (ns.map V.int) aH->∃ xs:List (Int×Tok),aH=xs.map (λp=>Value.int p.1 p.2)/\xs.map (·.1)=ns
 | [],_,r=>by cases r;exact ⟨[],rfl,rfl⟩
 | n::ns,_,r=>by
  cases r with
  | cons r1 rr=>
   obtain ⟨t,rfl⟩:=r1;obtain ⟨xs,rfl,e⟩:=kQ rr;exact ⟨(n,t)::xs,rfl,by rw [zc,e]⟩
theorem Ry (hc:X.calm=true):dm X (.builtin "max") (λxs H Q=>∃ p ns,xs=[.ref p]/\aU X.K H p (List.map V.int ns)/\0 < ns.length/\∀ M,M∈ns->(∀ a∈ns,a<=M)->Q (.int M) H):=by
 intro af s σ H xs us Q I r h;obtain ⟨p,ns,rfl,hp,n0,q⟩:=h;obtain ⟨u,rfl,ru⟩:=vals1 r;cases ru;obtain ⟨aH,r,pl,_⟩:=I.list hp;obtain ⟨ys,rfl,e⟩:=kQ r;have hl:ys.length=ns.length:=by rw [<-e,zA]
 have li:s.heap.IsList p (intItems ys.toArray):=by
  have:=pl.isList;unfold intItems;rw [List.map_toArray];exact this
 refine max_intList (I.ok.hd hc) li (by simp;omega) λv h' tk hv k=>?_;obtain ⟨t,rfl⟩:=intItems_at hv;obtain ⟨b1,b2⟩:=argBest_gt (numAt ys.toArray) (ys.toArray.size - 1);have S9:∀ j (h:j < ns.length),numAt ys.toArray j=ns[j]:=λj h=>by
  rw [numAt_eq];simp [e,h]
 have sz:ys.toArray.size=ns.length:=by simp [hl]
 rw [sz] at b1 b2 ⊢;refine ⟨.int _,H,I.kept k,⟨_,rfl⟩,q _ ?_ λa ha=>?_⟩
 ·rw [S9 _ (by omega)];exact zx _
 ·obtain ⟨j,hj,rfl⟩:=List.mem_iff_getElem.mp ha;have:=b2 j (by omega);rw [S9 j hj] at this;exact this
end
end L2
namespace Sm
open PySem L2 bh
noncomputable def mx:Option Int->Option Int->Option Int
 | none,b=>b
 | some a,none=>some a
 | some a,some b=>some (if b > a then b else a)
theorem ahead {n:Nat}{ms:List M4}{m:M4}(g:Good n (ms++[m])){v:Nat}{x y:Int}{i:Nat}(hi:i≠v)(h:fwd ms (aE v x) i=some y):y<=m.t/\((i=m.lo.toNat\/i=m.hi.toNat)->y < m.t):=by
 obtain ⟨a,ha,ao,at',_⟩:=jA (ws:=aI ms) h (by simp [aE,hi]);unfold aI at ha;obtain ⟨c,hc,hx⟩:=ye.mp ha;have od:=(List.pairwise_append.mp g.order).2.2 c hc m (by simp);obtain ⟨c1,c2,c3,_⟩:=g.each c (by simp [hc]);obtain ⟨m1,m2,m3,_⟩:=g.each m (by simp);unfold two at hx;simp only [zH,yW,or_false] at hx;have ct:c.t=y:=by rcases hx with rfl | rfl <;> exact at'
 have ci:i=c.lo.toNat\/i=c.hi.toNat:=by
  rcases hx with rfl | rfl
  ·exact .inr ao.symm
  ·exact .inl ao.symm
 refine ⟨by rcases od with h | h <;> omega,λhm=>?_⟩;rcases od with h | ⟨h1,h2,h3,h4,h5,h6⟩
 ·omega
 ·exfalso;rcases ci with e | e <;> rcases hm with e' | e' <;> omega
end Sm
namespace L2
open PySem PySem.Spec PyProof.Rows
section
variable {X:Cx}{af:List (Addr×Obj)}{σ:St}{H:Hp}{s:Shared}
theorem nO {ix:Nat}{xn:Str}{pos' ZP:Pos}{own:List Str}{caps:List Nat}{elt tg iter:Expr}{ifs:List Expr}{scope:Scope}{pos:Pos}{wi:TI}{g:TG}{tc:TT}{te:TE}(hN:X.N.Nodup)(hix:X.N[ix]?=some xn)(hxl:Q0 X.env.scope xn=true)(hc:X.calm=true)(S:aV own caps X.N X.env.scope scope)(hi:PI X tg iter wi)
  (hg:∀ s H fp C,PG (f7 X own caps scope s H fp C) tg g) (ht:∀ s H fp C,PTs (f7 X own caps scope s H fp C) ifs tc) (he:∀ s H fp C,PE (f7 X own caps scope s H fp C) elt te)
  (hs:∀ x,foldedSetIterable iter X.env x=pure x:=by intro _;rfl) (hsw:swapsWith (.ListComp elt [⟨tg,iter,ifs,0⟩] scope pos) (some (.Name xn pos')) ZP.line X.env=pure true:=by rfl)
  (hf:lU X xn=true:=by rfl) :
  PS X (.Assign [.Name xn pos'] (.ListComp elt [⟨tg,iter,ifs,0⟩] scope pos) ZP) (nv (Wy own.length caps wi g tc te) (dQ ix)):=by
 have hxl:=mK hxl;intro af s σ H D0 I h;rw [exec_Assign_Name_used _ _ _ _ hsw,arm_evalThenUse_ListComp]
 suffices main:wpAny (model X.prog X.w) X.A (comprehension (.ListComp elt [⟨tg,iter,ifs,0⟩] scope pos) scope X.env (firstIterPos [⟨tg,iter,ifs,0⟩] pos) (newList []) false (eval iter X.env) (some (assign (.Name xn pos') X.env))) (λ_ s1=>SP X af D0 .next s1) X.xe s from
  wpAny_bind (wpAny_standAt (wpAny_bind (wpAny_bind (wpAny_mono main (λ_ s1 h=>wpAny_pure (wpAny_pure h)) λ_ _ e=>e))))
 refine wpAny_comprehension_free (use:=some _) (cl:=iI scope.names X.env []) rfl hs (iV λy hy e=>I.ok.has y.1 (S.fr y hy e)) S.kind S.loc
  (wpAny_mono (hi af s σ H _ I h) (λv s1 h1=>bG h1 λitv s2 h2=>?_) λ_ _ e=>e)
 obtain ⟨it,fp,tn,J,H2,e,I2,T,vc,f2,W,⟨m0,w0⟩,turn⟩:=h2;subst e;refine wpAny_newObj_type (wpAny_newFunctionEnv S.um (by intro y hy;simp at hy) (λgw je fZ=>?_) S.kind);dsimp only at je fZ ⊢;generalize YE:s2.heap.push { cls:=.type "list", dict:=none,data:=.seq ([]:List Value).toArray }=G at je fZ ⊢;have hG:G.objs.size=s2.heap.objs.size + 1:=by rw [<-YE,Heap.size_push]
 have V9:s2.heap.objs.size≠G.objs.size:=by rw [hG];exact zY (xa _)
 have Wa:s2.heap.objs.size<=G.objs.size:=by rw [hG];exact xP _
 have below:∀ b,b < s2.heap.objs.size->b≠G.objs.size:=λb hb=>by rw [hG];exact zY (yn hb)
 have old:∀ b o,s2.heap.get? b=some o->gw.get? b=some o:=λb o e=>fZ.extBut b o (below b (Heap.lt_size e)) (Heap.get?_push_of_some _ (YE ▸ Heap.get?_push_of_some _ e));have TX:gw.get? s2.heap.objs.size=some { cls:=.type "list", dict:=none,data:=.seq ([]:List Value).toArray }:=fZ.extBut _ _ V9 (Heap.get?_push_of_some _ (YE ▸ Heap.get?_push_size _ rfl));have fl:∀ b∈fp,b < s2.heap.objs.size:=λb hb=>let ⟨o,e,_⟩:=T.obj _ _ vc b hb;Heap.lt_size e;have uz:gw.Ns G.objs.size λ_=>none:=je;have I4:=Nf (tk:=s2.toks + ([]:List (Str×Value)).length) I2 S f2 fl (zD _) Wa V9 old uz TX (λv z=>nomatch z);have u9:tn 0 gw:=T.keep _ _ _ vc λb _ o e=>old b o e;generalize hs4:({ s2 with heap:=gw,toks:=s2.toks + ([]:List (Str×Value)).length }:Shared)=s4 at I4 ⊢;have e4:s4.heap=gw:=by rw [<-hs4]
 rw [<-e4] at u9
 -- Wx loop
 have loop:codeAny (model X.prog X.w) X.A (.compLoop (.ListComp elt [⟨tg,iter,ifs,0⟩] scope pos) 0 (.ref it) (.ref s2.heap.objs.size) (compEnvC scope (iI scope.names X.env []) G.objs.size X.env))
   (compPost (model X.prog X.w) X.A X.xe (some (assign (.Name xn pos') X.env)) (λ_ s1=>SP X af D0 .next s1) (.ref s2.heap.objs.size) G.objs.size) s4:=by
  let Y:=f7 X own caps scope s2 H2 fp G.objs.size
  have ny:∀ {H':Hp}{aH:List Value}{n:Nat},(∀ b∈fp,H' b=none)->∀ b∈fp,rF Y [(s2.heap.objs.size,({ cls:=.type "list", data:=.seq aH.toArray n }:Obj))] H' b:=λ{H' aH n} hn b hb=>by
   refine ⟨hn b hb,below b (fl b hb),λz=>?_,.inl hb,λx c e=>(f2 b hb).2.2.2.2.1 x c (ww e),λp hp=>?_⟩
   ·rcases zH.mp (I2.kE b z) with e | e
    ·exact (f2 b hb).2.1 e
    ·exact (f2 b hb).2.2.1 e
   ·have e:p=(s2.heap.objs.size,({ cls:=.type "list", data:=.seq aH.toArray n }:Obj)):=by simpa using (show p∈[]++[_] from hp)
    subst e;exact yb (fl b hb)
  refine sE (λn s'=>∃ i τ acc aH k H',Inv Y [(s2.heap.objs.size,({ cls:=.type "list", data:=.seq aH.toArray k }:Obj))] τ H' s'/\tn i s'.heap/\(∀ b∈fp,H' b=none)/\Vals acc aH/\W i n τ acc H') ?_ m0
   ⟨0,_,[],[],0,H2,I4,u9,λb hb=>(f2 b hb).1,.nil,w0⟩
  rintro n s5 ⟨i,τ,acc,aH,k,H5,I5,gF,YJ,Vl,w5⟩;rcases turn i n τ acc H5 w5 with ⟨stop,hz,q⟩ | ⟨go,hz,step⟩
  ·refine bG (T.done Y rfl rfl rfl hc i _ s5 τ H5 (λ_ _=>False) I5 (ny YJ) gF stop) λr s6 ⟨hr,I6⟩=>?_;subst hr;obtain ⟨eD,nD,_,_,_⟩:=I6.pin _ (zQ _ (zJ.mpr rfl));obtain ⟨m6,hm6,_⟩:=I6.loc;have hC6:H5 G.objs.size=none:=I6.free;have Yv:ic X.prog X.w H5 s6.heap:=I6.bF;have ub:=I6.base;have IX:Inv X af σ (upd H5 s2.heap.objs.size (.lst acc)) s6:=by
    refine I2.Xa (ch:=fp) (s':=s6) I6.os ⟨λb o e n' hb hx=>ub.keep b o e n' hb hx,λb o e n' hb hx=>?_,λb o e n' hx=>?_,λb o e hx=>?_,λb xs e=>?_,λb o u e=>?_,λb ps e=>?_⟩
     (Yv.Ww nD ⟨hz,aH,k,Vl,eD⟩) I6.bare λb hb=>⟨(f2 b hb).2.2.2.1,(f2 b hb).2.1,(f2 b hb).2.2.2.2.1,(f2 b hb).2.2.2.2.2⟩
    ·exact ub.slot b o e n' hb hx
    ·rw [wF (zY (Heap.lt_size e))];exact ub.free b o e n' hx
    ·exact ub.there b o e hx
    ·have z:=ub.br b xs e;rw [wF (wC z nD)];exact z
    ·have z:=ub.oR b o u e;rw [wF (wC z nD)];exact z
    ·obtain ⟨more,z⟩:=ub.nu b ps e;exact ⟨more,by rw [wF (wC z nD)];exact z⟩
   have hCX:(upd H5 s2.heap.objs.size (.lst acc)) G.objs.size=none:=by rw [wF (Ne.symm V9)];exact hC6
   have fC:rF X af (upd H5 s2.heap.objs.size (.lst acc)) G.objs.size:=I2.Rm Wa hCX;obtain ⟨oC,esC,epC,gC,dC,rC⟩:=hm6;have IP:=IX.pinned (fp:=[G.objs.size]) (λb hb=>by cases zJ.mp hb;exact fC) (λb hb=>by cases zJ.mp hb;exact ⟨oC,gC,λv z=>by rw [dC] at z;cases z⟩);refine wpAny_assign_Name (jw IP hN hix hxl (v:=.ref s2.heap.objs.size) rfl (λs7 I7=>?_) hf);have pC:=(I7.pin (G.objs.size,oC) (zQ _ (zQ _ (ql (zJ.mpr rfl) gC)))).1;refine ⟨m6,⟨oC,esC,epC,pC,dC,rC⟩,λh' Yu=>?_⟩;have I8:Inv X af (σ.set ix (some (.ref s2.heap.objs.size))) (upd H5 s2.heap.objs.size (.lst acc)) { s7 with heap:=h' }:=I7.fz.turned (t':=s7.toks) (λb o hb e=>Yu.extBut b o hb e) fC.1 fC.2.1 fC.2.2.2.1 fC.2.2.2.2.1 fC.2.2.2.2.2;exact ⟨_,_,I8,q _ nD⟩
  ·refine bG (T.item Y rfl rfl rfl hc i _ s5 τ H5 (λ_ _=>False) I5 (ny YJ) gF go) λr s6 ⟨u,hr,h6⟩=>?_;subst hr;refine bG h6 λ_ s7 ⟨x,H7,I7,r7,y7,Qu,fr7⟩=>?_;have I7':=I7.pinned (ny fr7) (T.obj _ _ Qu);refine bG (hg s2 H2 fp G.objs.size _ s7 τ H7 x u _ I7' r7 (step x H7 y7)) λ_ s8 ⟨RT,H8,I8,q8⟩=>?_;refine bG (ht s2 H2 fp G.objs.size _ s8 RT H8 _ I8 q8) λok s9 ⟨H9,I9,q9⟩=>?_
   -- Wx oF state behind Wx turn
   have back:∀ {s':Shared}{Zw:St}{H':Hp},Inv Y ([(s2.heap.objs.size,({ cls:=.type "list", data:=.seq aH.toArray k }:Obj))]++kJ fp s7.heap) Zw H' s'->(tn (i + 1) s'.heap/\∀ b∈fp,H' b=none):=λ{s' Zw H'} Ib=>
    ⟨T.keep _ _ _ Qu λb hb o e=>(Ib.pin (b,o) (zQ _ (zQ _ (ql hb e)))).1,λb hb=>by
     obtain ⟨o,e,d⟩:=T.obj _ _ Qu b hb;exact (Ib.pin (b,o) (zQ _ (zQ _ (ql hb e)))).2.1⟩
   cases ok with
   | false=>
    obtain ⟨m',gG,w'⟩:=q9;obtain ⟨sb,fb⟩:=back I9;exact ⟨m',gG,i + 1,RT,acc,aH,k,H9,I9.fz,sb,fb,Vl,w'⟩
   | true=>
    refine bG (he s2 H2 fp G.objs.size _ s9 RT H9 _ I9 q9) λy N4 ⟨yv,Uu,Y5,r10,q10⟩=>?_;obtain ⟨m',gG,w'⟩:=q10;obtain ⟨sb,fb⟩:=back Y5;obtain ⟨eD,nD,X3,nfD,_⟩:=Y5.pin (s2.heap.objs.size,_) (zQ _ (z4 _ (zJ.mpr rfl)));have hl:acc.length=aH.length:=Vl.length;refine call_meets F.slot_list_append ⟨_,eD,rfl⟩ F.entry_list_append (F.args_list_append_2 _ _) (PySem.list_append s2.heap.objs.size aH.toArray k y (by rw [zR];omega)) ⟨eD,?_⟩;have q:=PySem.IsL.update eD (λa:Array Value=>a.push y);have Iu:Inv Y [] RT Uu N4:=Y5.cV λp hp=>nomatch hp;have It:=Iu.turned (t':=N4.toks) (it:=s2.heap.objs.size) (h':=N4.heap.update s2.heap.objs.size (Obj.mapSeq (λa:Array Value=>a.push y))) (λb o hb e=>(Heap.get?_update_other N4.heap _ (Ne.symm hb)).trans e) nD X3 (.inr (zD _))
     (λx c e z=>by
      obtain ⟨v,ob,UB,_⟩:=I2.cell x c (ww e);exact absurd (Heap.lt_size UB) (by rw [z];exact yS _)) (λp hp=>nomatch hp)
    have It':=It.cV (iR:=[(s2.heap.objs.size,({ cls:=.type "list", data:=.seq (aH++[y]).toArray (k + 1) }:Obj))]) λp hp=>by
     have e:p=_:=zJ.mp hp;subst e;exact ⟨by simpa using q,nD,X3,nfD,λv z=>nomatch z⟩
    refine ⟨m',gG,i + 1,RT,acc++[yv],aH++[y],_,Uu,It',T.keep _ _ _ sb λb hb o e=>(Heap.get?_update_other N4.heap _ (yb (fl b hb))).trans e,fb,Vl.append (.cons r10 .nil),w'⟩
 exact codeAny_compStart_list loop (T.self _ 0 s4 _ _ u9 loop)
end
section
variable {n:Nat}{caps:List Nat}{σ:St}{H:Hp}{g:TG}{tc:TT}{te:TE}{Qf:Addr->Hp->List V->Prop}{K:PySem.W.Frag}{a b:Addr}{xs ys:List V}
end
section
variable {X:Cx}
theorem Rx (hc:X.calm=true):dm X (.builtin "min") (λxs H Q=>∃ p ns,xs=[.ref p]/\aU X.K H p (List.map V.int ns)/\0 < ns.length/\∀ M,M∈ns->(∀ a∈ns,M<=a)->Q (.int M) H):=by
 intro af s σ H xs us Q I r h;obtain ⟨p,ns,rfl,hp,n0,q⟩:=h;obtain ⟨u,rfl,ru⟩:=vals1 r;cases ru;obtain ⟨aH,r,pl,_⟩:=I.list hp;obtain ⟨ys,rfl,e⟩:=kQ r;have hl:ys.length=ns.length:=by rw [<-e,zA]
 have li:s.heap.IsList p (intItems ys.toArray):=by
  have:=pl.isList;unfold intItems;rw [List.map_toArray];exact this
 refine min_intList (I.ok.hd hc) li (by simp;omega) λv h' tk hv k=>?_;obtain ⟨t,rfl⟩:=intItems_at hv;obtain ⟨b1,b2⟩:=argBest_lt (numAt ys.toArray) (ys.toArray.size - 1);have S9:∀ j (h:j < ns.length),numAt ys.toArray j=ns[j]:=λj h=>by
  rw [numAt_eq];simp [e,h]
 have sz:ys.toArray.size=ns.length:=by simp [hl]
 rw [sz] at b1 b2 ⊢;refine ⟨.int _,H,I.kept k,⟨_,rfl⟩,q _ ?_ λa ha=>?_⟩
 ·rw [S9 _ (by omega)];exact zx _
 ·obtain ⟨j,hj,rfl⟩:=List.mem_iff_getElem.mp ha;have:=b2 j (by omega);rw [S9 j hj] at this;exact this
end
end L2
namespace Sm
open PySem L2 bh
theorem acX {c:Bool}{A B:Prop}{D:Ends}{σ:St}{H:Hp}(Pre:St->Hp->Prop)(k:∀ σ H,Pre σ H->D.nx σ H)(h1:c=true->(∀ σ H,Pre σ H->D.nx σ H)->A)(h2:c=false->(∀ σ H,Pre σ H->D.nx σ H)->B):if c=true then (if true=true then A else gj D σ H) else B:=by
 cases c with
 | true=>exact h1 rfl k
 | false=>exact h2 rfl k
theorem acZ {c:Bool}{T2 A:Prop}{D:Ends}{σ:St}{H:Hp}(Pre:St->Hp->Prop)(k:∀ σ H,Pre σ H->D.nx σ H)(h1:c=true->(∀ σ H,Pre σ H->D.nx σ H)->T2)(h2:c=false->Pre σ H):if c=true then T2 else (if false=true then A else gj D σ H):=by
 cases c with
 | true=>exact h1 rfl k
 | false=>exact k _ _ (h2 rfl)
structure Loose (w:Int) (ms:List M4):Prop where
 gH:ms.length<=60
 each:∀ r∈ms,0<=r.lo/\r.lo < r.hi/\r.hi < w/\1<=r.t/\r.t<=1000000000/\1<=r.m/\r.m<=99
 pw:ms.Pairwise λa b=>a.t=b.t->apart a b
theorem Good.loose {w:Int}{ms:List M4}(g:Good w ms):Loose w ms:=⟨g.gH,g.each,g.order.imp λh e=>by
 rcases h with h | h
 ·omega
 ·exact h.2.2⟩
noncomputable def pO (H:Hp)(l:Addr)(fs:List (Addr×M4)):Prop:=H l=some (.lst (fs.map λa=>V.ref a.1))/\dS H fs
theorem pO.same {H H':Hp}{l:Addr}{fs:List (Addr×M4)}(h:pO H l fs)(s:aG H H'):pO H' l fs:=⟨s _ _ h.1,h.2.br (bN.same s)⟩
end Sm
namespace gu
open PySem
theorem pI {xs:Array Nat}{j:Nat}(so:xs.toList.Pairwise (· < ·)):∀ (fuel lo hi:Nat),hi - lo<=fuel->lo<=hi->hi<=xs.size->(∀ i (h:i < xs.size),i < lo->xs[i] < j)->(∀ i (h:i < xs.size),hi<=i->j<=xs[i]) ->
  SetTable.below.go xs j fuel lo hi<=xs.size/\(∀ i (h:i < xs.size),i < SetTable.below.go xs j fuel lo hi->xs[i] < j)/\∀ i (h:i < xs.size),SetTable.below.go xs j fuel lo hi<=i->j<=xs[i]
 | 0,lo,hi,hf,h1,h2,hl,hh=>by
  have:lo=hi:=by omega
  subst this;unfold SetTable.below.go;exact ⟨h2,hl,hh⟩
 | fuel + 1,lo,hi,hf,h1,h2,hl,hh=>by
  unfold SetTable.below.go;have mono:∀ a b (ha:a < xs.size) (hb:b < xs.size),a < b->xs[a] < xs[b]:=λa b ha hb ab=>by
   have:=zl.mp so a b (by simpa using ha) (by simpa using hb) ab;simpa using this
  by_cases c:lo < hi
  ·rw [if_pos c];dsimp only;have hm:(lo + hi) / 2 < xs.size:=by omega
   have e:xs.getD ((lo + hi) / 2) j=xs[(lo + hi) / 2]:=by simp [Array.getD,hm]
   rw [e];by_cases d:xs[(lo + hi) / 2] < j
   ·rw [if_pos d];refine pI so fuel _ _ (by omega) (by omega) h2 (λi h fm=>?_) hh;by_cases q:i=(lo + hi) / 2
    ·subst q;exact d
    ·exact Nat.lt_trans (mono i ((lo + hi) / 2) h hm (by omega)) d
   ·rw [if_neg d];refine pI so fuel _ _ (by omega) (by omega) (by omega) hl (λi h fm=>?_);by_cases q:i=(lo + hi) / 2
    ·subst q;omega
    ·have:=mono ((lo + hi) / 2) i hm h (by omega);omega
  ·rw [if_neg c];have:lo=hi:=by omega
   subst this;exact ⟨h2,hl,hh⟩
theorem pH {xs:Array Nat}{j:Nat}(so:xs.toList.Pairwise (· < ·)):SetTable.below xs j<=xs.size/\(∀ i (h:i < xs.size),i < SetTable.below xs j->xs[i] < j)/\∀ i (h:i < xs.size),SetTable.below xs j<=i->j<=xs[i]:=
 pI so _ _ _ (by omega) (by omega) (zD _) (λ_ _ h=>absurd h (yB _)) (λi h hi=>absurd h (by omega))
theorem below_at {xs:Array Nat}{j i:Nat}(so:xs.toList.Pairwise (· < ·))(h:xs[i]?=some j):SetTable.below xs j=i:=by
 obtain ⟨hi,e⟩:=Array.getElem?_eq_some_iff.mp h;obtain ⟨b1,b2,b3⟩:=pH (j:=j) so;rcases Nat.lt_trichotomy (SetTable.below xs j) i with c | c | c
 ·have hb:SetTable.below xs j < xs.size:=by omega
  have:=b3 _ hb (zD _);have m:=zl.mp so (SetTable.below xs j) i (by simpa using hb) (by simpa using hi) c;simp only [Array.getElem_toList] at m;omega
 ·exact c
 ·have:=b2 i hi c;omega
theorem kG {t:SetTable}{j i:Nat}(so:t.place.toList.Pairwise (· < ·))(h:t.place[i]?=some j):t.slot j=.live i:=by unfold SetTable.slot;dsimp only;rw [below_at so h,h];simp
theorem Ow {t:SetTable}{j:Nat}(nd:t.dummies=#[])(h:j ∉ t.place.toList):t.slot j=.empty:=by
 unfold SetTable.slot;dsimp only;rw [if_neg,if_neg]
 ·rw [nd];unfold SetTable.has;simp
 ·intro c;have:t.place[SetTable.below t.place j]?=some j:=by simpa using c
  exact h (by simpa using Array.mem_of_getElem? this)
noncomputable def RQ (m:Nat)(p:SetTable.Probe):SetTable.Probe:=
 if p.more > 0 then { p with j:=p.j + 1,more:=p.more - 1 } else
 { p with j:=(SetTable.leap m p.i p.perturb).1,more:=SetTable.runEnd m (SetTable.leap m p.i p.perturb).1 - (SetTable.leap m p.i p.perturb).1,i:=(SetTable.leap m p.i p.perturb).1,perturb:=(SetTable.leap m p.i p.perturb).2 }
theorem pM (t:SetTable)(p:SetTable.Probe):t.advance p=RQ t.mask p:=rfl
noncomputable def run (m i u:Nat):SetTable.Probe:={ j:=i,more:=SetTable.runEnd m i - i,i,perturb:=u,dummy:=none }
noncomputable def start (m:Nat)(h:Int):SetTable.Probe:=run m (SetTable.bits h % (m + 1)) (SetTable.bits h)
noncomputable def ad (m:Nat):Nat->SetTable.Probe->SetTable.Probe
 | 0,p=>p
 | n + 1,p=>ad m n (RQ m p)
theorem jW (m n:Nat)(p:SetTable.Probe):ad m (n + 1) p=RQ m (ad m n p):=by
 induction n generalizing p with
 | zero=>rfl
 | succ n ih=>exact ih (RQ m p)
theorem Um (m a b:Nat)(p:SetTable.Probe):ad m (a + b) p=ad m b (ad m a p):=by
 induction a generalizing p with
 | zero=>rw [xc];rfl
 | succ a ih=>rw [Nat.succ_add];exact ih (RQ m p)
theorem RC {m:Nat}{p:SetTable.Probe}:(RQ m p).dummy=p.dummy:=by unfold RQ;split <;> rfl
theorem NV {m:Nat}:∀ {n:Nat}{p:SetTable.Probe},(ad m n p).dummy=p.dummy
 | 0,_=>rfl
 | n + 1,p=>(NV (n:=n)).trans RC
def at' (m:Nat)(h:Int)(n:Nat):Nat:=(ad m n (start m h)).j
theorem iE {m i u:Nat}:∀ k,k<=SetTable.runEnd m i - i->ad m k (run m i u)={ j:=i + k,more:=SetTable.runEnd m i - i - k,i,perturb:=u,dummy:=none }
 | 0,_=>rfl
 | k + 1,h=>by
  rw [jW,iE k (by omega)];unfold RQ;dsimp only;rw [if_pos (by omega)];rfl
theorem l7 {m i u:Nat}:ad m (SetTable.runEnd m i - i + 1) (run m i u)=run m ((i * 5 + 1 + u / 32) % (m + 1)) (u / 32):=by rw [jW,iE _ (zD _)];unfold RQ;dsimp only;rw [if_neg (by omega)];rfl
theorem fB {m i:Nat}:SetTable.runEnd m i - i<=9/\i<=SetTable.runEnd m i/\(i<=m->SetTable.runEnd m i<=m):=by unfold SetTable.runEnd;split <;> omega
noncomputable def runs (m:Nat):Nat->Nat->Nat->Nat×Nat
 | 0,i,u=>(i,u)
 | r + 1,i,u=>runs m r ((i * 5 + 1 + u / 32) % (m + 1)) (u / 32)
theorem PD {m:Nat}:∀ (r i u:Nat),∃ c,c<=10 * r/\ad m c (run m i u)=run m (runs m r i u).1 (runs m r i u).2
 | 0,i,u=>⟨0,zD _,rfl⟩
 | r + 1,i,u=>by
  obtain ⟨c,hc,e⟩:=PD r ((i * 5 + 1 + u / 32) % (m + 1)) (u / 32);refine ⟨SetTable.runEnd m i - i + 1 + c,?_,?_⟩
  ·have:=(fB (m:=m) (i:=i)).1;omega
  ·rw [Um,l7,e];rfl
theorem vD {m:Nat}:∀ (a b i u:Nat),runs m (a + b) i u=runs m b (runs m a i u).1 (runs m a i u).2
 | 0,b,i,u=>by rw [xc];rfl
 | a + 1,b,i,u=>by rw [Nat.succ_add];exact vD a b _ _
theorem jx {m:Nat}:∀ (r i u:Nat),(runs m r i u).2=u / 32 ^ r
 | 0,i,u=>by simp [runs]
 | r + 1,i,u=>by
  show (runs m r _ (u / 32)).2=_;rw [jx r,Nat.div_div_eq_div_mul,Nat.pow_succ,xb]
theorem nI {m:Nat}:∀ (r i u:Nat),i<=m->(runs m r i u).1<=m
 | 0,i,u,h=>h
 | r + 1,i,u,h=>nI r _ _ (yk.mp (Nat.mod_lt _ (by omega)))
noncomputable def f5 (m:Nat):Nat->Nat->Nat
 | 0,i=>i
 | s + 1,i=>f5 m s ((i * 5 + 1) % (m + 1))
theorem PB {m:Nat}:∀ (s i:Nat),(runs m s i 0).1=f5 m s i
 | 0,i=>rfl
 | s + 1,i=>by
  show (runs m s ((i * 5 + 1 + 0 / 32) % (m + 1)) (0 / 32)).1=f5 m s ((i * 5 + 1) % (m + 1));rw [Nat.zero_div,Nat.add_zero];exact PB s _
theorem uJ {m:Nat}:∀ (a b i:Nat),f5 m (a + b) i=f5 m b (f5 m a i)
 | 0,b,i=>by rw [xc];rfl
 | a + 1,b,i=>by rw [Nat.succ_add];exact uJ a b _
noncomputable def uT (m:Nat):Nat->Nat->Nat->Nat
 | 0,_,acc=>acc
 | s + 1,i,acc=>uT m s ((i * 5 + 1) % (m + 1)) (acc ||| (2 ^ i))
theorem lY {m j:Nat}:∀ (s i acc:Nat),(uT m s i acc).testBit j=true->acc.testBit j=true\/∃ a,a < s/\f5 m a i=j
 | 0,i,acc,h=>.inl h
 | s + 1,i,acc,h=>by
  rcases lY s _ _ h with h | ⟨a,ha,e⟩
  ·rw [Nat.testBit_or,Bool.or_eq_true] at h;rcases h with h | h
   ·exact .inl h
   ·rw [Nat.testBit_two_pow] at h;exact .inr ⟨0,by omega,of_decide_eq_true h⟩
  ·exact .inr ⟨a + 1,by omega,e⟩
def Mask (m:Nat):Prop:=m=7\/m=31\/m=127\/m=511\/m=2047\/m=8191
theorem YT {m:Nat}(hm:Mask m):f5 m (m + 1) 0=0/\∀ j,j<=m->∃ a,a<=m/\f5 m a 0=j:=by
 have key:f5 m (m + 1) 0=0/\uT m (m + 1) 0 0=2 ^ (m + 1) - 1:=by
  rcases hm with rfl | rfl | rfl | rfl | rfl | rfl <;> constructor <;> decide +kernel
 refine ⟨key.1,λj hj=>?_⟩;have:(uT m (m + 1) 0 0).testBit j=true:=by
  rw [key.2,Nat.testBit_two_pow_sub_one];exact decide_eq_true (by omega)
 rcases lY _ _ _ this with h | ⟨a,ha,e⟩
 ·simp at h
 ·exact ⟨a,by omega,e⟩
theorem cover {m i j:Nat}(hm:Mask m)(hi:i<=m)(hj:j<=m):∃ s,s<=m/\f5 m s i=j:=by
 obtain ⟨z,all⟩:=YT hm;obtain ⟨a,ha,rfl⟩:=all i hi;obtain ⟨b,hb,rfl⟩:=all j hj;by_cases c:a<=b
 ·exact ⟨b - a,by omega,by rw [<-uJ];congr 1;omega⟩
 ·refine ⟨b + (m + 1) - a,by omega,?_⟩;rw [<-uJ,show a + (b + (m + 1) - a)=(m + 1) + b from by omega,uJ,z]
theorem reach {m i u j:Nat}(hm:Mask m)(hi:i<=m)(hu:u < 2 ^ 64)(hj:j<=m):∃ r,r<=m + 13/\(runs m r i u).1=j:=by
 have p0:(runs m 13 i u).2=0:=by
  rw [jx];exact Nat.div_eq_of_lt (zT hu (by decide))
 obtain ⟨s,hs,e⟩:=cover hm (nI 13 i u hi) hj;refine ⟨13 + s,by omega,?_⟩;rw [vD,p0,PB,e]
theorem Qh (h:Int):SetTable.bits h < 2 ^ 64:=by
 unfold SetTable.bits;have a:=xC h (show (2 ^ 64:Int)≠0 by decide);have b:=yl h (show (0:Int) < 2 ^ 64 by decide);have c:((h % 2 ^ 64).toNat:Int)=h % 2 ^ 64:=yi a;have d:((2 ^ 64:Nat):Int)=(2:Int) ^ 64:=by decide
 omega
theorem SK {m j:Nat}{h:Int}(hm:Mask m)(hj:j<=m):∃ n,n<=10 * (m + 13)/\at' m h n=j:=by obtain ⟨r,hr,e⟩:=reach (u:=SetTable.bits h) hm (yk.mp (Nat.mod_lt (SetTable.bits h) (show 0 < m + 1 by omega))) (Qh h) hj;obtain ⟨c,hc,e2⟩:=PD (m:=m) r (SetTable.bits h % (m + 1)) (SetTable.bits h);refine ⟨c,by omega,?_⟩;unfold at' start;rw [e2,e];rfl
theorem least {P:Nat->Prop}:∀ n,P n->∃ k,k<=n/\P k/\∀ i,i < k->¬ P i:=by
 intro n;induction n using Nat.strongRecOn with
 | _ n ih=>
  intro h;by_cases c:∃ i,i < n/\P i
  ·obtain ⟨i,hi,pi⟩:=c;obtain ⟨k,hk,pk,al⟩:=ih i hi pi;exact ⟨k,by omega,pk,al⟩
  ·exact ⟨n,zD _,h,λi hi pi=>c ⟨i,hi,pi⟩⟩
theorem OX {m:Nat}{O:Nat->Prop}(h:Int)(hm:Mask m)(he:∃ j,j<=m/\¬ O j):∃ N,N<=10 * (m + 13)/\¬ O (at' m h N)/\∀ n,n < N->O (at' m h n):=by obtain ⟨j,hj,no⟩:=he;obtain ⟨n,hn,e⟩:=SK (h:=h) hm hj;obtain ⟨k,hk,pk,al⟩:=least (P:=λn=>¬ O (at' m h n)) n (by rw [e];exact no);exact ⟨k,by omega,pk,λi hi=>Classical.byContradiction λc=>al i hi c⟩
theorem NT {m:Nat}{h:Int}:∀ n,at' m h n<=m:=by
 have key:∀ n,(ad m n (start m h)).j + (ad m n (start m h)).more<=m:=by
  have step:∀ p:SetTable.Probe,p.j + p.more<=m->(RQ m p).j + (RQ m p).more<=m:=λp hp=>by
   unfold RQ;split
   ·dsimp only;omega
   ·dsimp only;have l:(SetTable.leap m p.i p.perturb).1<=m:=yk.mp (Nat.mod_lt _ (by omega));have:=fB (m:=m) (i:=(SetTable.leap m p.i p.perturb).1);have:=this.2.2 l;omega
  intro n;induction n with
  | zero=>
   show SetTable.bits h % (m + 1) + (SetTable.runEnd m (SetTable.bits h % (m + 1)) - SetTable.bits h % (m + 1))<=m;have l:SetTable.bits h % (m + 1)<=m:=yk.mp (Nat.mod_lt _ (by omega));have:=fB (m:=m) (i:=SetTable.bits h % (m + 1));have:=this.2.2 l;omega
  | succ n ih=>rw [jW];exact step _ ih
 intro n;have:=key n;unfold at';omega
end gu
namespace gu
open PySem
structure Tab (t:SetTable) (es:Array (Int×Value)):Prop where
 mask:Mask t.mask
 nd:t.dummies=#[]
 so:t.place.toList.Pairwise (· < ·)
 sz:t.place.size=es.size
 small:∀ j∈t.place.toList,j<=t.mask
 sF:es.size * 5 < t.mask * 3
 way:∀ i (h:i < es.size),∃ n,t.place[i]?=some (at' t.mask es[i].1 n)/\∀ n',n' < n->at' t.mask es[i].1 n'∈t.place.toList
theorem Tab.room {t:SetTable}{es:Array (Int×Value)}(T:Tab t es):es.size<=t.mask:=by have:=T.sF;omega
theorem Tab.fits {t:SetTable}{es:Array (Int×Value)}(T:Tab t es):t.fits es.size=true:=by unfold SetTable.fits SetTable.fill;have:=T.room;rw [T.sz,T.nd];simp;exact this
theorem Tab.odd {t:SetTable}{es:Array (Int×Value)}(T:Tab t es):t.gaveWay=false:=by unfold SetTable.gaveWay;rcases T.mask with h | h | h | h | h | h <;> rw [h] <;> rfl
theorem uX:∀ (n:Nat) (l:List Nat),(∀ j,j < n->j∈l)->n<=l.length
 | 0,_,_=>za _
 | n + 1,l,h=>by
  have:=uX n (l.erase n) λj hj=>(List.mem_erase_of_ne (by omega)).mpr (h j (by omega));rw [List.length_erase_of_mem (h n (by omega))] at this;have:=List.length_pos_of_mem (h n (by omega));omega
theorem Tj {l:List Nat}{m:Nat}(h:l.length<=m):∃ j,j<=m/\j ∉ l:=by refine Classical.byContradiction λc=>?_;have:=uX (m + 1) l λj hj=>Classical.byContradiction λz=>c ⟨j,by omega,z⟩;omega
theorem Tab.left {t:SetTable}{es:Array (Int×Value)}(T:Tab t es):∃ j,j<=t.mask/\¬ j∈t.place.toList:=by have:=Tj (l:=t.place.toList) (m:=t.mask) (by rw [Array.length_toList,T.sz];exact T.room);exact this
theorem Tab.first {t:SetTable}{es:Array (Int×Value)}(T:Tab t es)(h:Int):∃ N,N<=10 * (t.mask + 13)/\¬ at' t.mask h N∈t.place.toList/\∀ n,n < N->at' t.mask h n∈t.place.toList:=OX h T.mask T.left
theorem Ul {t:SetTable}{j:Nat}(h:j∈t.place.toList):∃ i:Nat,t.place[i]?=some j:=by obtain ⟨i,hi,e⟩:=xK h;exact ⟨i,by rw [<-Array.getElem?_toList,zO hi,e]⟩
theorem vJ {t:SetTable}{es:Array (Int×Value)}(T:Tab t es){hashAt:Nat->Int}{h:Int}{N:Nat}(hN:¬ at' t.mask h N∈t.place.toList)(fL:∀ n,n < N->at' t.mask h n∈t.place.toList) :
  ∀ (d k fuel:Nat),N - k=d->k<=N->d < fuel ->
   (∃ n i,k<=n/\n < N/\t.place[i]?=some (at' t.mask h n)/\hashAt i=h/\(∀ n',k<=n'->n' < n->∀ i',t.place[i']?=some (at' t.mask h n')->hashAt i'≠h)/\SetTable.probe.go t hashAt h fuel (ad t.mask k (start t.mask h))=some (.candidate (at' t.mask h n) i (ad t.mask (n + 1) (start t.mask h)))) \/
   ((∀ n',k<=n'->n' < N->∀ i',t.place[i']?=some (at' t.mask h n')->hashAt i'≠h)/\SetTable.probe.go t hashAt h fuel (ad t.mask k (start t.mask h))=some (.empty (at' t.mask h N) none))
 | d,k,0,e,hk,hf=>absurd hf (yB _)
 | 0,k,fuel + 1,e,hk,hf=>by
  have:k=N:=by omega
  subst this;refine .inr ⟨λn' h1 h2=>absurd h1 (by omega),?_⟩;unfold SetTable.probe.go;rw [show (ad t.mask k (start t.mask h)).j=at' t.mask h k from rfl,Ow T.nd hN];dsimp only;rw [NV];rfl
 | d + 1,k,fuel + 1,e,hk,hf=>by
  obtain ⟨i,hi⟩:=Ul (fL k (by omega));by_cases c:hashAt i=h
  ·refine .inl ⟨k,i,zD _,by omega,hi,c,λn' h1 h2=>absurd h1 (by omega),?_⟩;unfold SetTable.probe.go;rw [show (ad t.mask k (start t.mask h)).j=at' t.mask h k from rfl,kG T.so hi];dsimp only;rw [if_pos (by rw [c];simp),pM,<- jW]
  ·have step:SetTable.probe.go t hashAt h (fuel + 1) (ad t.mask k (start t.mask h))=SetTable.probe.go t hashAt h fuel (ad t.mask (k + 1) (start t.mask h)):=by
    conv=>lhs;unfold SetTable.probe.go
    rw [show (ad t.mask k (start t.mask h)).j=at' t.mask h k from rfl,kG T.so hi];dsimp only;rw [if_neg (by simpa using c),pM,<- jW]
   have here:∀ i',t.place[i']?=some (at' t.mask h k)->hashAt i'≠h:=λi' fm=>by
    have:=(below_at T.so fm).symm.trans (below_at T.so hi);rw [this];exact c
   rw [step];rcases vJ T hN fL d (k + 1) fuel (by omega) (by omega) (by omega) with ⟨n,i2,a1,a2,a3,a4,a5,a6⟩ | ⟨a1,a2⟩
   ·refine .inl ⟨n,i2,by omega,a2,a3,a4,λn' h1 h2 i' fm=>?_,a6⟩;by_cases q:n'=k
    ·subst q;exact here i' fm
    ·exact a5 n' (by omega) h2 i' fm
   ·refine .inr ⟨λn' h1 h2 i' fm=>?_,a2⟩;by_cases q:n'=k
    ·subst q;exact here i' fm
    ·exact a1 n' (by omega) h2 i' fm
end gu
namespace gu
open PySem
section
variable {prog:Program}{w:World}{K:Type} [DecidableEq K] {knd:HeapKind prog w K}{A:Around}{E:Value->Shared->Prop}{s:Shared}{a:Addr}
noncomputable def abg (knd:HeapKind prog w K)(h:Heap)(es:Array (Int×Value))(ks:Nat->K):Prop:=∀ i (hi:i < es.size),∃ b,es[i]=(knd.hash (ks i),.ref b)/\knd.is h (ks i) b
noncomputable def Calm (knd:HeapKind prog w K)(A:Around)(s:Shared):Prop:=∀ (k:K) (b:Addr),knd.is s.heap k b->∀ (E:Value->Shared->Prop) (Q:Bool->Shared->Prop),Q false s->wpAny (model prog w) A (ofAClassStatement 8 (.ref b)) Q E s
theorem S4 {k:K}{c:Addr}(hk:knd.is s.heap k c)(cl:Calm knd A s):∀ (ys:List Value),(∀ y∈ys,∃ k b,y=.ref b/\knd.is s.heap k b)->∀ {Q:Bool->Shared->Prop},Q false s->wpAny (model prog w) A (searchCouldBeSeen (.ref c) ys) Q E s:=by
 intro ys hy Q q;unfold searchCouldBeSeen;refine wpAny_bind ?_;refine wpAny_forIn_list _ (λrest r s'=>r.1=none/\s'=s/\∀ y∈rest,∃ k b,y=.ref b/\knd.is s.heap k b) _ ?_ ?_ _ _ ⟨rfl,rfl,hy⟩
 ·rintro y rest r s' ⟨hr,rfl,fL⟩;obtain ⟨k2,b,rfl,hb⟩:=fL _ yF;have next:∀ u∈rest,∃ k b,u=Value.ref b/\knd.is s'.heap k b:=λu hu=>fL u (zn _ hu);dsimp only;split
  ·exact wpAny_pure ⟨rfl,rfl,next⟩
  ·refine wpAny_bind (knd.quiet hk ?_);simp only [Bool.not_true,zg,if_false];refine wpAny_bind (knd.quiet hb ?_);simp only [Bool.not_true,zg,if_false];refine wpAny_bind (cl _ _ hk _ _ ?_);simp only [zg,if_false];refine wpAny_bind (cl _ _ hb _ _ ?_);simp only [zg,if_false];exact wpAny_pure ⟨rfl,rfl,next⟩
 ·rintro ⟨r1,r2⟩ s' ⟨hr,rfl,_⟩;simp only at hr;subst hr;exact wpAny_pure q
theorem search {o:Obj}{es:Array (Int×Value)}{ep:Nat}{t:SetTable}{ks:Nat->K}{kx:K}{c:Addr}{adding:Bool}{Q:SetFound->Shared->Prop}(hr:knd.room A)(ho:s.heap.get? a=some o)(hd:o.data=.set es ep t)(T:Tab t es)(ke:abg knd s.heap es ks)(hx:knd.is s.heap kx c)(cl:Calm knd A s)
  (qt:∀ r:Option Nat,(r=none->adding=true)->(∃ i,i < es.size/\ks i=kx)->Q (.there r) s) {N:Nat} (hN:¬ at' t.mask (knd.hash kx) N∈t.place.toList) (fL:∀ n,n < N->at' t.mask (knd.hash kx) n∈t.place.toList) (hNb:N<=10 * (t.mask + 13))
  (qf:(∀ i,i < es.size->ks i≠kx)->Q (.free (at' t.mask (knd.hash kx) N) false) s) :
  ∀ (fuel k:Nat) (st:Option SetTable.Probe),N - k < fuel->k<=N->st.getD (t.probeStart (knd.hash kx))=ad t.mask k (start t.mask (knd.hash kx))->(∀ n',n' < k->∀ i',t.place[i']?=some (at' t.mask (knd.hash kx) n')->ks i'≠kx) ->
   wpAny (model prog w) A (setSearchFrom a (.ref c) (knd.hash kx) adding fuel st) Q E s
 | 0,k,st,hf,_,_,_=>absurd hf (yB _)
 | fuel + 1,k,st,hf,hk,VU,prev=>by
  unfold setSearchFrom;refine wpAny_bind (wpAny_setState_of ho hd T.fits ?_);dsimp only;rw [T.odd,VU];simp only [zg,if_false];unfold SetTable.probe;rcases vJ T hN fL (hashAt:=λi=>((es[i]?).map (·.1)).getD 0) _ k (10 * SetTable.turns t.mask) rfl hk (by unfold SetTable.turns;omega) with ⟨n,i,a1,a2,a3,a4,a5,a6⟩ | ⟨a1,a2⟩
  ·generalize hp:SetTable.probe.go t _ (knd.hash kx) (10 * SetTable.turns t.mask) (ad t.mask k (start t.mask (knd.hash kx)))=pr;have e:=hp.symm.trans a6;subst e;have hi:i < es.size:=by
    have:=(Array.getElem?_eq_some_iff.mp a3).1;rw [T.sz] at this;exact this
   obtain ⟨b,eb,hb⟩:=ke i hi;have eg:es[i]?=some (knd.hash (ks i),.ref b):=by rw [<-eb];exact Array.getElem?_eq_getElem hi
   dsimp only;rw [eg];dsimp only;have sl:=kG T.so a3;have mem:t.sameMemory t.moves t.mask=some true:=by simp [SetTable.sameMemory]
   have again:=search (adding:=adding) hr ho hd T ke hx cl qt hN fL hNb qf fuel (n + 1) (some (ad t.mask (n + 1) (start t.mask (knd.hash kx)))) (by omega) (by omega) rfl;have more:ks i≠kx->∀ n',n' < n + 1->∀ i',t.place[i']?=some (at' t.mask (knd.hash kx) n')->ks i'≠kx:=λne n' hn i' fm=>by
    by_cases q:n' < k
    ·exact prev n' q i' fm
    by_cases q2:n'=n
    ·subst q2;have:=(below_at T.so fm).symm.trans (below_at T.so a3);rw [this];exact ne
    ·intro z;have hl:i' < es.size:=by
      have:=(Array.getElem?_eq_some_iff.mp fm).1;rw [T.sz] at this;exact this
     obtain ⟨b',eb',_⟩:=ke i' hl;exact a5 n' (by omega) (by omega) i' fm (by simp [eb',hl,z])
   have stored:∀ y∈List.map (λx=>x.snd) (Array.filter (λx=>x.fst == knd.hash kx) es).toList,∃ k b,y=Value.ref b/\knd.is s.heap k b:=λy hy=>by
    obtain ⟨e,he,rfl⟩:=zK.mp hy;have he:e∈es:=by
     have:e∈es/\e.fst=knd.hash kx:=by simpa using he
     exact this.1
    obtain ⟨j,hj,rfl⟩:=Array.getElem_of_mem he;obtain ⟨b',eb',dZ⟩:=ke j hj;exact ⟨_,b',by rw [eb'],dZ⟩
   split
   ·refine wpAny_bind (S4 hx cl _ stored ?_);simp only [zg,if_false];refine wpAny_bind (wpAny_holding (knd.eqBool hr hb hx ?_));refine wpAny_bind (wpAny_setState_of ho hd T.fits ?_);dsimp only;rw [mem];dsimp only;rw [if_pos (show (true=true) from rfl),sl];dsimp only;rw [eg];dsimp only;by_cases q:ks i=kx
    ·rw [decide_eq_true q];cases adding with
     | true=>exact wpAny_pure (qt _ (λ_=>rfl) ⟨i,hi,q⟩)
     | false=>
      simp only [yx,zg,if_false];refine wpAny_bind (wpAny_isSame_ref_self ?_);exact wpAny_pure (qt _ (λz=>by cases z) ⟨i,hi,q⟩)
    ·rw [decide_eq_false q];simp only [xW,zg,if_false];refine wpAny_bind (wpAny_isSame_ref_self ?_);exact again (more q)
   ·refine wpAny_bind (wpAny_holding (knd.eqBool hr hb hx ?_));refine wpAny_bind (wpAny_setState_of ho hd T.fits ?_);dsimp only;rw [mem];dsimp only;rw [if_pos (show (true=true) from rfl),sl];dsimp only;rw [eg];dsimp only;by_cases q:ks i=kx
    ·rw [decide_eq_true q];cases adding with
     | true=>exact wpAny_pure (qt _ (λ_=>rfl) ⟨i,hi,q⟩)
     | false=>
      simp only [yx,zg,if_false];refine wpAny_bind (wpAny_isSame_ref_self ?_);exact wpAny_pure (qt _ (λz=>by cases z) ⟨i,hi,q⟩)
    ·rw [decide_eq_false q];simp only [xW,zg,if_false];refine wpAny_bind (wpAny_isSame_ref_self ?_);exact again (more q)
  ·generalize hp:SetTable.probe.go t _ (knd.hash kx) (10 * SetTable.turns t.mask) (ad t.mask k (start t.mask (knd.hash kx)))=pr;have e:=hp.symm.trans a2;subst e;dsimp only;refine wpAny_pure (qf λi hi z=>?_);obtain ⟨m,hm,al⟩:=T.way i hi;obtain ⟨b,eb,_⟩:=ke i hi;rw [eb] at hm al;dsimp only at hm al;rw [z] at hm al;have mN:m < N:=Classical.byContradiction λc=>by
    by_cases q:N=m
    ·subst q;exact hN (by simpa using Array.mem_of_getElem? hm)
    ·exact hN (al N (by omega))
   by_cases q:m < k
   ·exact prev m q i hm z
   ·refine a1 m (by omega) mN i hm ?_;simp [eb,hi,z]
structure RD (knd:HeapKind prog w K) (h:Heap) (a:Addr) (es:Array (Int×Value)) (ep:Nat) (t:SetTable) (ks:Nat->K):Prop where
 obj:h.get? a=some { cls:=.type "set", data:=.set es ep t }
 tab:Tab t es
 keys:abg knd h es ks
theorem find {es:Array (Int×Value)}{ep:Nat}{t:SetTable}{ks:Nat->K}{kx:K}{c:Addr}{Q:Option Nat->Shared->Prop}(hr:knd.room A)(S:RD knd s.heap a es ep t ks)(hx:knd.is s.heap kx c)(cl:Calm knd A s)
  (qt:∀ r:Option Nat,r.isSome=true->(∃ i,i < es.size/\ks i=kx)->Q r s) (qf:(∀ i,i < es.size->ks i≠kx)->Q none s):wpAny (model prog w) A (setFind a (.ref c) (knd.hash kx)) Q E s:=by
 obtain ⟨N,n1,n2,n3⟩:=S.tab.first (knd.hash kx);unfold setFind setFindIn;refine wpAny_bind (wpAny_setState_of S.obj rfl S.tab.fits ?_);dsimp only;rw [show byScan (.ref c) es=false from rfl];simp only [zg,if_false];refine wpAny_bind ?_;unfold setSearch;have lim:10 * (t.mask + 13) < 100000:=by
  rcases S.tab.mask with h | h | h | h | h | h <;> rw [h] <;> decide
 refine search hr S.obj rfl S.tab S.keys hx cl (λr h f=>?_) n2 n3 n1 (λnf=>?_) 100000 0 none (by omega) (za _) rfl (λn' h=>absurd h (yB _))
 ·refine wpAny_pure (qt r ?_ f);cases r with
  | none=>cases h rfl
  | some i=>rfl
 ·exact wpAny_pure (qf nf)
theorem nH {es:Array (Int×Value)}{ep:Nat}{t:SetTable}{ks:Nat->K}(S:RD knd s.heap a es ep t ks):s.TypeIs (.ref a) "set" := ⟨_,S.obj,rfl⟩
theorem inSet {es:Array (Int×Value)}{ep:Nat}{t:SetTable}{ks:Nat->K}{kx:K}{c:Addr}{Q:Value->Shared->Prop}(hr:knd.room A.in1)(S:RD knd s.heap a es ep t ks)(hx:knd.is s.heap kx c)(cl:∀ B (s':Shared),s'.heap=s.heap->Calm knd B s')
  (qt:(∃ i,i < es.size/\ks i=kx)->Q (.bool true) { s with toks:=s.toks + knd.draws kx }) (qf:(∀ i,i < es.size->ks i≠kx)->Q (.bool false) { s with toks:=s.toks + knd.draws kx }):wpAny (model prog w) A (compareOp .In (.ref c) (.ref a)) Q E s:=by
 have hT:=nH S;show wpAny _ _ (do return .bool (<- contains (.ref a) (.ref c))) Q E s;refine wpAny_bind ?_;unfold contains;try with_reducible refine wpAny_holding ?_
 refine wpAny_bind (wpAny_specialOf hT F.slot_set_contains.lookup ?_);show wpAny _ _ (if (some (Value.builtin "set.__contains__") == some Value.none)=true then _ else _) _ E s;rw [if_neg (by rw [beq_builtin_none];exact zP)];refine wpAny_bind (wpAny_callSpecialUnlessNone?_slot (name:=Str.ofString "__contains__") hT F.slot_set_contains
  (wpAny_call_entry F.slot_set_contains hT entry_set_contains ?_ (F.args_set_contains_2 _ _)))
 unfold Builtin.«frozenset.__contains__» Builtin.Frozenset.oneOther;simp only [List.isEmpty_nil,bind_assoc];unfold Builtin.Frozenset.addrOf Builtin.Frozenset.withSetAsKey setContains;refine wpAny_bind (wpAny_pure ?_);try dsimp only
 refine wpAny_bind (wpAny_pure ?_);try dsimp only
 refine wpAny_bind (wpAny_tryCatch ?_);refine wpAny_holding ?_;refine wpAny_bind (knd.pyHash hr hx ?_);refine wpAny_bind (find (s:={ s with toks:=s.toks + knd.draws kx }) hr ⟨S.obj,S.tab,S.keys⟩ hx (cl _ _ rfl) (λr hs f=>?_) (λnf=>?_))
 ·refine wpAny_pure ?_;show wpAny _ _ (ret (Value.bool r.isSome)) _ _ _;rw [hs];exact wpAny_pure ⟨_,rfl,wpAny_truthy_bool (wpAny_pure (qt f))⟩
 ·refine wpAny_pure ?_;show wpAny _ _ (ret (Value.bool false)) _ _ _;exact wpAny_pure ⟨_,rfl,wpAny_truthy_bool (wpAny_pure (qf nf))⟩
end
end gu
namespace gu
open PySem
theorem oJ {α:Type}{l:List α}{p:Nat}{x:α}(hp:p<=l.length)(i:Nat):(l.take p++x::l.drop p)[i]?=if i < p then l[i]? else if i=p then some x else l[i - 1]?:=by
 have lt:(l.take p).length=p:=by rw [zV];omega
 by_cases c:i < p
 ·rw [if_pos c,zX (by omega),List.getElem?_take_of_lt c]
 ·rw [if_neg c,zZ (by omega),lt];by_cases d:i=p
  ·rw [if_pos d,d,xF];rfl
  ·rw [if_neg d,show i - p=(i - p - 1) + 1 from by omega,z8,List.getElem?_drop];congr 1;omega
theorem Tab.put {t:SetTable}{es:Array (Int×Value)}(T:Tab t es){h:Int}{x:Value}{N:Nat}(hN:¬ at' t.mask h N∈t.place.toList)(fL:∀ n,n < N->at' t.mask h n∈t.place.toList)(pl:Bool) :
  (((es.size + 1) * 5 < t.mask * 3)->Tab { (t.put (at' t.mask h N)).1 with plain:=pl } (SetTable.insertAt es (t.put (at' t.mask h N)).2 (h,x)))/\(t.put (at' t.mask h N)).1.dummies=#[]/\(t.put (at' t.mask h N)).1.mask=t.mask/\(t.put (at' t.mask h N)).1.place.size=es.size + 1:=by
 have e1:(t.put (at' t.mask h N)).1={ t with place:=SetTable.insertAt t.place (SetTable.below t.place (at' t.mask h N)) (at' t.mask h N) }:=by
  unfold SetTable.put;dsimp only;rw [T.nd];unfold SetTable.has;simp
 have e2:(t.put (at' t.mask h N)).2=SetTable.below t.place (at' t.mask h N):=rfl;rw [e1,e2];generalize hj:at' t.mask h N=j at *;obtain ⟨b1,b2,b3⟩:=pH (j:=j) T.so;generalize hp:SetTable.below t.place j=p at *;have lp:(SetTable.insertAt t.place p j).toList=t.place.toList.take p++j::t.place.toList.drop p:=SetTable.toList_insertAt ..;have le:(SetTable.insertAt es p (h,x)).toList=es.toList.take p++(h,x)::es.toList.drop p:=SetTable.toList_insertAt ..;have p1:p<=t.place.toList.length:=by rw [Array.length_toList];exact b1
 have p2:p<=es.toList.length:=by rw [Array.length_toList,<- T.sz];exact b1
 have s1:(SetTable.insertAt t.place p j).size=es.size + 1:=by
  rw [<-Array.length_toList,lp,zG,zU,zV,xN,Array.length_toList,<- T.sz];omega
 have s2:(SetTable.insertAt es p (h,x)).size=es.size + 1:=by
  rw [<-Array.length_toList,le,zG,zU,zV,xN,Array.length_toList];have:=T.sz;omega
 have mem:∀ j',j'∈(SetTable.insertAt t.place p j).toList↔j'=j\/j'∈t.place.toList:=λj'=>by
  rw [lp,zW,zH];constructor
  ·rintro (h | h | h)
   ·exact .inr (List.mem_of_mem_take h)
   ·exact .inl h
   ·exact .inr (List.mem_of_mem_drop h)
  ·rintro (h | h)
   ·exact .inr (.inl h)
   ·rw [<-List.take_append_drop p t.place.toList,zW] at h;exact h.imp id .inr
 refine ⟨λsF=>⟨T.mask,T.nd,?_,by rw [s2];exact s1,λj' P7=>?_,by rw [s2];exact sF,λi hi=>?_⟩,T.nd,rfl,s1⟩
 ·show (SetTable.insertAt t.place p j).toList.Pairwise (· < ·);rw [lp,List.pairwise_append,yd];refine ⟨T.so.sublist (List.take_sublist _ _),⟨λy hy=>?_,T.so.sublist (List.drop_sublist _ _)⟩,λy hy z hz=>?_⟩
  ·obtain ⟨i,hi,e⟩:=xK hy;rw [List.getElem_drop] at e;have hl:p + i < t.place.size:=by rw [xN,Array.length_toList] at hi;omega
   have q:=b3 (p + i) hl (by omega);rw [Array.getElem_toList] at e;rw [e] at q;have ne:y≠j:=λz=>hN (by rw [<-z];exact List.mem_of_mem_drop hy);omega
  ·obtain ⟨i,hi,e⟩:=xK hy;rw [List.getElem_take] at e;rw [zV,Array.length_toList] at hi;have hl:i < t.place.size:=by omega
   have q:=b2 i hl (by omega);rw [Array.getElem_toList] at e;rw [e] at q;rcases zH.mp hz with z1 | z1
   ·rw [z1];exact q
   ·obtain ⟨k,hk,ek⟩:=xK z1;rw [List.getElem_drop] at ek;have hl':p + k < t.place.size:=by rw [xN,Array.length_toList] at hk;omega
    have q2:=b3 (p + k) hl' (by omega);rw [Array.getElem_toList] at ek;rw [ek] at q2;omega
 ·have P7:j'∈(SetTable.insertAt t.place p j).toList:=P7;rcases (mem j').mp P7 with z | z
  ·rw [z,<- hj];exact NT N
  ·exact T.small j' z
 ·show ∃ n,(SetTable.insertAt t.place p j)[i]?=some (at' t.mask (SetTable.insertAt es p (h,x))[i].1 n)/\∀ n',n' < n->at' t.mask (SetTable.insertAt es p (h,x))[i].1 n'∈(SetTable.insertAt t.place p j).toList;have ge:(SetTable.insertAt es p (h,x))[i]?=some (SetTable.insertAt es p (h,x))[i]:=Array.getElem?_eq_getElem hi;generalize (SetTable.insertAt es p (h,x))[i]=e at ge ⊢;rw [<-Array.getElem?_toList,le,oJ p2] at ge;rw [<-Array.getElem?_toList,lp,oJ p1,<- lp];have old:∀ k,es.toList[k]?=some e->∃ n,t.place.toList[k]?=some (at' t.mask e.1 n)/\∀ n',n' < n->at' t.mask e.1 n'∈(SetTable.insertAt t.place p j).toList:=λk hk=>by
   rw [Array.getElem?_toList] at hk;obtain ⟨UD,ek⟩:=Array.getElem?_eq_some_iff.mp hk;obtain ⟨n,a1,a2⟩:=T.way k UD;rw [ek] at a1 a2;exact ⟨n,by rw [Array.getElem?_toList];exact a1,λn' hn=>(mem _).mpr (.inr (a2 n' hn))⟩
  by_cases c:i < p
  ·rw [if_pos c] at ge ⊢;exact old i ge
  ·rw [if_neg c] at ge ⊢;by_cases d:i=p
   ·rw [if_pos d] at ge ⊢;cases ge;exact ⟨N,by rw [hj],λn' hn=>(mem _).mpr (.inr (fL n' hn))⟩
   ·rw [if_neg d] at ge ⊢;exact old (i - 1) ge
noncomputable def PU (ow:Array (Option Nat))(j:Nat):Prop:=(ow.getD j (some 0)).isNone=false
theorem sN {m:Nat}{ow:Array (Option Nat)}:∀ (fuel i u:Nat),(∃ r,r < fuel/\¬ PU ow (runs m r i u).1) ->
  ∃ n,SetTable.layClean.free m ow fuel i u=some (ad m n (run m i u)).j/\¬ PU ow (ad m n (run m i u)).j/\∀ n',n' < n->PU ow (ad m n' (run m i u)).j
 | 0,i,u,⟨r,h,_⟩=>absurd h (yB _)
 | fuel + 1,i,u,⟨r,h,no⟩=>by
  unfold SetTable.layClean.free;cases e:(List.range (SetTable.runEnd m i + 1 - i)).find? λk=>(ow.getD (i + k) (some 0)).isNone with
  | some k=>
   dsimp only;obtain ⟨hk,c8,before⟩:=List.find?_range_eq_some.mp e;have c8:k < SetTable.runEnd m i + 1 - i:=zh.mp c8;have inr:∀ k',k'<=k->(ad m k' (run m i u)).j=i + k':=λk' UD=>by rw [iE k' (by omega)]
   refine ⟨k,by rw [inr k (zD _)],?_,λn' hn=>?_⟩
   ·rw [inr k (zD _)];unfold PU;rw [hk];simp
   ·rw [inr n' (by omega)];unfold PU;have:=before n' hn;simpa using this
  | none=>
   dsimp only;have all:∀ k,k < SetTable.runEnd m i + 1 - i->PU ow (i + k):=λk hk=>by
    have:=List.find?_eq_none.mp e k (zh.mpr hk);unfold PU;cases q:(ow.getD (i + k) (some 0)).isNone with
    | false=>rfl
    | true=>exact absurd q this
   have r0:r≠0:=λz=>by
    subst z;refine no ?_;exact all 0 (by have:=(fB (m:=m) (i:=i)).2.1;omega)
   obtain ⟨r',rfl⟩:=Nat.exists_eq_succ_of_ne_zero r0;obtain ⟨n,a1,a2,a3⟩:=sN fuel ((i * 5 + 1 + u / 32) % (m + 1)) (u / 32) ⟨r',by omega,no⟩;have next:∀ n',ad m (SetTable.runEnd m i - i + 1 + n') (run m i u)=ad m n' (run m ((i * 5 + 1 + u / 32) % (m + 1)) (u / 32)):=λn'=>by rw [Um,l7]
   refine ⟨SetTable.runEnd m i - i + 1 + n,?_,?_,λn' hn=>?_⟩
   ·rw [next];exact a1
   ·rw [next];exact a2
   ·by_cases c:n' < SetTable.runEnd m i - i + 1
    ·rw [iE n' (by omega)];exact all n' (by have:=(fB (m:=m) (i:=i)).2.1;omega)
    ·rw [show n'=SetTable.runEnd m i - i + 1 + (n' - (SetTable.runEnd m i - i + 1)) from by omega,next];exact a3 _ (by omega)
structure Lay (m:Nat) (hs:List Int) (ow:Array (Option Nat)):Prop where
 sz:ow.size=m + 1
 each:∀ (k:Nat) (h:Int),hs[k]?=some h->∃ n,ow[at' m h n]?=some (some k)/\∀ n',n' < n->PU ow (at' m h n')
 low:∀ (j k:Nat),ow[j]?=some (some k)->k < hs.length
 one:∀ (j j' k:Nat),ow[j]?=some (some k)->ow[j']?=some (some k)->j=j'
theorem jH {ow:Array (Option Nat)}{j:Nat}(h:j < ow.size):PU ow j↔∃ k,ow[j]?=some (some k):=by unfold PU;rw [show ow.getD j (some 0)=ow[j] from by simp [Array.getD,h],Array.getElem?_eq_getElem h];cases ow[j] <;> simp
theorem Lay.left {m:Nat}{hs:List Int}{ow:Array (Option Nat)}(L:Lay m hs ow)(gH:hs.length<=m):∃ j,j<=m/\¬ PU ow j:=by
 refine Classical.byContradiction λc=>?_;have all:∀ j,j < m + 1->∃ k,ow[j]?=some (some k):=λj hj=>(jH (by rw [L.sz];exact hj)).mp (Classical.byContradiction λz=>c ⟨j,by omega,z⟩);have pick:∀ k,∃ j,k < hs.length->ow[j]?=some (some k):=λk=>by
  by_cases hk:k < hs.length
  ·obtain ⟨n,a,_⟩:=L.each k hs[k] (zO hk);exact ⟨_,λ_=>a⟩
  ·exact ⟨0,λz=>absurd z hk⟩
 have:=uX (m + 1) ((List.range hs.length).map λk=>(pick k).choose) λj hj=>by
  obtain ⟨k,hk⟩:=all j hj;have kl:=L.low j k hk;exact zK.mpr ⟨k,zh.mpr kl,L.one _ _ _ ((pick k).choose_spec kl) hk⟩
 rw [zA,yK] at this;omega
theorem Lay.step {m:Nat}{hs:List Int}{ow:Array (Option Nat)}(hm:Mask m)(L:Lay m hs ow)(gH:hs.length<=m)(h:Int) :
  ∃ j,SetTable.layClean.free m ow (SetTable.turns m) (SetTable.bits h % (m + 1)) (SetTable.bits h)=some j/\Lay m (hs++[h]) (ow.setIfInBounds j (some hs.length)):=by
 obtain ⟨j0,hj0,no⟩:=L.left gH;obtain ⟨r,hr,e⟩:=reach (u:=SetTable.bits h) hm (yk.mp (Nat.mod_lt (SetTable.bits h) (show 0 < m + 1 by omega))) (Qh h) hj0;obtain ⟨n,a1,a2,a3⟩:=sN (m:=m) (ow:=ow) (SetTable.turns m) (SetTable.bits h % (m + 1)) (SetTable.bits h) ⟨r,by unfold SetTable.turns;omega,by rw [e];exact no⟩;have ej:(ad m n (run m (SetTable.bits h % (m + 1)) (SetTable.bits h))).j=at' m h n:=rfl;rw [ej] at a1 a2;have a3:∀ n',n' < n->PU ow (at' m h n'):=a3;have jl:at' m h n < ow.size:=by rw [L.sz];exact yk.mpr (NT n)
 have get:∀ j,(ow.setIfInBounds (at' m h n) (some hs.length))[j]?=if at' m h n=j then some (some hs.length) else ow[j]?:=λj=>by
  rw [Array.getElem?_setIfInBounds];by_cases c:at' m h n=j
  ·rw [if_pos c,if_pos c,if_pos jl]
  ·rw [if_neg c,if_neg c]
 have keep:∀ j,PU ow j->j < ow.size->PU (ow.setIfInBounds (at' m h n) (some hs.length)) j:=λj oj hj=>by
  rw [jH (by rw [Array.size_setIfInBounds];exact hj),get];by_cases c:at' m h n=j
  ·exact ⟨_,by rw [if_pos c]⟩
  ·rw [if_neg c];exact (jH hj).mp oj
 have free:∀ k,ow[at' m h n]?≠some (some k):=λk z=>a2 ((jH jl).mpr ⟨k,z⟩);refine ⟨_,a1,by rw [Array.size_setIfInBounds];exact L.sz,λk x hx=>?_,λj k hj=>?_,λj j' k h1 h2=>?_⟩
 ·by_cases c:k < hs.length
  ·rw [zX c] at hx;obtain ⟨n2,b1,b2⟩:=L.each k x hx;refine ⟨n2,?_,λn' hn=>keep _ (b2 n' hn) (by rw [L.sz];exact yk.mpr (NT n'))⟩;rw [get,if_neg λz=>free k (by rw [z];exact b1)];exact b1
  ·rw [zZ (by omega)] at hx;have:k - hs.length=0:=by
    have:=(zC.mp hx).1;simp at this;omega
   rw [this] at hx;cases hx;have:k=hs.length:=by omega
   subst this;exact ⟨n,by rw [get,if_pos rfl],λn' hn=>keep _ (a3 n' hn) (by rw [L.sz];exact yk.mpr (NT n'))⟩
 ·rw [get] at hj;rw [zG,zp];split at hj
  ·cases hj;omega
  ·have:=L.low j k hj;omega
 ·rw [get] at h1 h2;split at h1 <;> split at h2
  ·rename_i x y;rw [<-x,<- y]
  ·cases h1;have:=L.low _ _ h2;omega
  ·cases h2;have:=L.low _ _ h1;omega
  ·exact L.one _ _ _ h1 h2
theorem Nb {m:Nat}(hm:Mask m):∀ (l hs:List Int) (ow:Array (Option Nat)),Lay m hs ow->hs.length + l.length<=m + 1 ->
  ∃ ow',l.foldl (λ(acc:Option (Array (Option Nat)×Nat)) h=>do
   let (owner,k) <- acc
   let j <- SetTable.layClean.free m owner (SetTable.turns m) (SetTable.bits h % (m + 1)) (SetTable.bits h)
   pure (owner.setIfInBounds j (some k),k + 1)) (some (ow,hs.length))=some (ow',hs.length + l.length)/\Lay m (hs++l) ow'
 | [],hs,ow,L,_=>⟨ow,rfl,by rw [zy];exact L⟩
 | h::l,hs,ow,L,gH=>by
  obtain ⟨j,e,L'⟩:=L.step hm (by rw [zU] at gH;omega) h;have adI:(hs++[h]).length + l.length<=m + 1:=by rw [zG,zp];rw [zU] at gH;omega
  obtain ⟨ow',e2,L2⟩:=Nb hm l (hs++[h]) _ L' adI;refine ⟨ow',?_,by rw [xD] at L2;exact L2⟩;rw [List.foldl_cons];show l.foldl _ ((SetTable.layClean.free m ow (SetTable.turns m) (SetTable.bits h % (m + 1)) (SetTable.bits h)).bind λj=>some (ow.setIfInBounds j (some hs.length),hs.length + 1))=_;rw [e];rw [zG,zp] at e2;rw [zU];rw [show hs.length + (l.length + 1)=hs.length + 1 + l.length from by omega];exact e2
theorem Q3 {m:Nat}(hm:Mask m){hashes:Array Int}(gH:hashes.size<=m + 1):∃ ow,SetTable.layClean m hashes=some ow/\Lay m hashes.toList ow:=by have L0:Lay m [] (Array.replicate (m + 1) none):=⟨by simp,λk h e=>(by cases e),(λj k e=>by rw [Array.getElem?_replicate] at e;split at e <;> cases e),(λj j' k e=>by rw [Array.getElem?_replicate] at e;split at e <;> cases e)⟩;obtain ⟨ow,e,L⟩:=Nb hm hashes.toList [] _ L0 (by rw [yE,Array.length_toList];omega);refine ⟨ow,?_,by simpa using L⟩;unfold SetTable.layClean;rw [<-Array.foldl_toList];have:=congrArg (Option.map (·.1)) e;exact this
theorem Vy {l l':List Nat}(h:l.Nodup)(h':l'.Nodup)(e:∀ x,x∈l↔x∈l'):l.Perm l':=by
 rw [List.perm_iff_count];intro a;rw [h.count,h'.count];by_cases c:a∈l
 ·rw [if_pos c,if_pos ((e a).mp c)]
 ·rw [if_neg c,if_neg λz=>c ((e a).mpr z)]
theorem uH {α β:Type}{f:α->Option β}{g:α->β}:∀ {l:List α},(∀ x∈l,f x=some (g x))->l.filterMap f=l.map g
 | [],_=>rfl
 | x::l,h=>by
  rw [List.filterMap_cons_some (h x yF),zc,uH λy hy=>h y (zn _ hy)]
theorem uI {f:Nat->Option Nat}:∀ (l:List Nat),(l.filterMap λj=>(f j).map (j,·)).map (·.1)=l.filter λj=>(f j).isSome
 | []=>rfl
 | x::l=>by
  cases e:f x with
  | none=>rw [List.filterMap_cons_none (by rw [e];rfl),List.filter_cons_of_neg (by rw [e];simp),uI l]
  | some k=>rw [List.filterMap_cons_some (b:=(x,k)) (by rw [e];rfl),List.filter_cons_of_pos (by rw [e];rfl),zc,uI l]
theorem vG {t:SetTable}{es:Array (Int×Value)}{wanted m:Nat}(hw:SetTable.sizeAbove wanted - 1=m)(hm:Mask m)(sF:es.size * 5 < m * 3) :
  ∃ t' order,t.relaid (es.map (·.1)) wanted=some (t',order)/\(order.filterMap (es[·]?)).toList.Perm es.toList/\Tab t' (order.filterMap (es[·]?)):=by
 obtain ⟨ow,e,L⟩:=Q3 (hashes:=es.map (·.1)) hm (by rw [Array.size_map];omega);have lh:(es.map (·.1)).toList.length=es.size:=by rw [Array.length_toList,Array.size_map]
 have hh:∀ (k:Nat) (x:Int×Value),es[k]?=some x->(es.map (·.1)).toList[k]?=some x.1:=λk x hx=>by rw [Array.getElem?_toList,Array.getElem?_map,hx];rfl
 let lv:=(List.range (m + 1)).filterMap λj=>(ow.getD j none).map (j,·)
 have e2:t.relaid (es.map (·.1)) wanted=some ({ mask:=m,place:=(lv.map (·.1)).toArray,dummies:=#[],finger:=t.finger,led:=t.led,moves:=t.movedTo m,plain:=t.plain },(lv.map (·.2)).toArray):=by
  unfold SetTable.relaid SetTable.laid;rw [hw,e];rfl
 have f1:lv.map (·.1)=(List.range (m + 1)).filter λj=>(ow.getD j none).isSome:=uI _;have f2:∀ p∈lv,ow[p.1]?=some (some p.2)/\p.1<=m:=λp hp=>by
  obtain ⟨j,hj,q⟩:=yw.mp hp;have hj:j < m + 1:=zh.mp hj;have hs:j < ow.size:=by rw [L.sz];exact hj
  rw [show ow.getD j none=ow[j] from by simp [Array.getD,hs]] at q;cases eo:ow[j] with
  | none=>rw [eo] at q;cases q
  | some k=>rw [eo] at q;cases q;exact ⟨by rw [Array.getElem?_eq_getElem hs,eo],by show j<=m;omega⟩
 have f3:∀ j k,ow[j]?=some (some k)->(j,k)∈lv:=λj k h=>by
  obtain ⟨hs,eo⟩:=Array.getElem?_eq_some_iff.mp h;refine yw.mpr ⟨j,zh.mpr (by rw [L.sz] at hs;exact hs),?_⟩;rw [show ow.getD j none=ow[j] from by simp [Array.getD,hs],eo];rfl
 have so1:(lv.map (·.1)).Pairwise (· < ·):=by rw [f1];exact List.pairwise_lt_range.filter _
 have so2:lv.Pairwise λa b=>a.1 < b.1:=yO.mp so1;have nd:(lv.map (·.2)).Nodup:=by
  refine yO.mpr (so2.imp_of_mem λ{a b} ha hb h z=>?_);have:=L.one _ _ _ (f2 a ha).1 (by rw [z];exact (f2 b hb).1);omega
 have kl:∀ p∈lv,p.2 < es.size:=λp hp=>by have:=L.low _ _ (f2 p hp).1;rw [lh] at this;exact this
 have pm:(lv.map (·.2)).Perm (List.range es.size):=Vy nd List.nodup_range λk=>by
  constructor
  ·intro h;obtain ⟨p,hp,rfl⟩:=zK.mp h;exact zh.mpr (kl p hp)
  ·intro h;have hk:k < es.size:=zh.mp h;obtain ⟨n,a,_⟩:=L.each k es[k].1 (hh k _ (Array.getElem?_eq_getElem hk));exact zK.mpr ⟨_,f3 _ _ a,rfl⟩
 let g:Nat->Int×Value:=λk=>(es[k]?).getD (0,Value.none)
 have gk:∀ k,k < es.size->es[k]?=some (g k):=λk hk=>by show es[k]?=some ((es[k]?).getD _);rw [Array.getElem?_eq_getElem hk];rfl
 have e3:((lv.map (·.2)).toArray.filterMap (es[·]?)).toList=lv.map λp=>g p.2:=by
  rw [Array.toList_filterMap,List.filterMap_map];exact uH λp hp=>gk p.2 (kl p hp)
 have e4:es.toList=(List.range es.size).map g:=by
  have:=filterMap_getElem?_range es;rw [uH (g:=g) λk hk=>gk k (zh.mp hk)] at this;exact this.symm
 refine ⟨_,_,e2,?_,?_⟩
 ·rw [e3,e4,show (λp:Nat×Nat=>g p.2)=g ∘ (·.2) from rfl,<- zo];exact pm.map g
 ·have sz:((lv.map (·.2)).toArray.filterMap (es[·]?)).size=lv.length:=by rw [<-Array.length_toList,e3,zA]
  have ll:lv.length=es.size:=by have:=pm.length_eq;rw [zA,yK] at this;exact this
  refine ⟨hm,rfl,by simpa using so1,by rw [sz];simp,λj hj=>?_,by rw [sz,ll];exact sF,λi hi=>?_⟩
  ·have hj:j∈lv.map (·.1):=by simpa using hj
   obtain ⟨p,hp,rfl⟩:=zK.mp hj;exact (f2 p hp).2
  ·have ge:((lv.map (·.2)).toArray.filterMap (es[·]?))[i]?=some ((lv.map (·.2)).toArray.filterMap (es[·]?))[i]:=Array.getElem?_eq_getElem hi;generalize ((lv.map (·.2)).toArray.filterMap (es[·]?))[i]=x at ge ⊢;rw [<-Array.getElem?_toList,e3,zS] at ge;cases ep:lv[i]? with
   | none=>rw [ep] at ge;cases ge
   | some p=>
    rw [ep] at ge;have ge:g p.2=x:=Option.some.inj ge;have hp:=zB ep;have hx:=gk p.2 (kl p hp);rw [ge] at hx;obtain ⟨n,a1,a2⟩:=L.each p.2 x.1 (hh p.2 x hx);have ej:=L.one _ _ _ a1 (f2 p hp).1;refine ⟨n,?_,λn' hn=>?_⟩
    ·show ((lv.map (·.1)).toArray)[i]?=some (at' m x.1 n);rw [List.getElem?_toArray,zS,ep,ej];rfl
    ·show at' m x.1 n'∈((lv.map (·.1)).toArray).toList;obtain ⟨k,hk⟩:=(jH (by rw [L.sz];exact yk.mpr (NT n'))).mp (a2 n' hn);simpa using ⟨k,f3 _ _ hk⟩
end gu
namespace gu
open PySem
section
variable {prog:Program}{w:World}{K:Type} [DecidableEq K] {knd:HeapKind prog w K}{A:Around}{E:Value->Shared->Prop}{s:Shared}{a:Addr}
noncomputable def Ut (knd:HeapKind prog w K):Prop:=∀ (A:Around) (s:Shared) (k:K) (b:Addr),knd.is s.heap k b->∀ (E:Value->Shared->Prop) (Q:Bool->Shared->Prop),(∀ v,Q v s)->wpAny (model prog w) A (hashByValue 8 (.ref b)) Q E s
noncomputable def lC (es:Array (Int×Value))(ep:Nat)(t:SetTable):Obj:={ cls:=.type "set", data:=.set es ep t }
theorem store {es es':Array (Int×Value)}{ep:Nat}{t t':SetTable}{Q:Unit->Shared->Prop}(ho:s.heap.get? a=some (lC es ep t))(hz:es'.size<=sizeLine)
  (h:∀ h',Heap.SameBut a s.heap h'->h'.get? a=some (lC es' (ep + 1) t')->Q () { s with heap:=h' }):wpAny (model prog w) A (storeSet a es' t') Q E s:=by
 refine wpAny_storeSet_of ho rfl (h _ (Heap.SameBut.update s.heap a (Obj.putSet es' t')) ?_) hz;have:=Heap.get?_update_self (Obj.putSet es' t') ho (by rw [putSet_of es' t' rfl];rfl);rw [putSet_of es' t' rfl] at this;exact this
theorem OV {n m:Nat}(hm:Mask m)(lt:(n - 1) * 5 < m * 3)(n1:1<=n)(full:n * 5 ≥ m * 3)(gH:n<=4000):Mask (SetTable.sizeAbove (SetTable.grown n) - 1)/\n * 5 < (SetTable.sizeAbove (SetTable.grown n) - 1) * 3/\SetTable.sizeAbove (SetTable.grown n)<=8192:=by
 rcases hm with rfl | rfl | rfl | rfl | rfl | rfl
 ·have:n=5:=by omega
  subst this;exact ⟨.inr (.inl (by decide +kernel)),by decide +kernel,by decide +kernel⟩
 ·have:n=19:=by omega
  subst this;exact ⟨.inr (.inr (.inl (by decide +kernel))),by decide +kernel,by decide +kernel⟩
 ·have:n=77:=by omega
  subst this;exact ⟨.inr (.inr (.inr (.inl (by decide +kernel)))),by decide +kernel,by decide +kernel⟩
 ·have:n=307:=by omega
  subst this;exact ⟨.inr (.inr (.inr (.inr (.inl (by decide +kernel))))),by decide +kernel,by decide +kernel⟩
 ·have:n=1229:=by omega
  subst this;exact ⟨.inr (.inr (.inr (.inr (.inr (by decide +kernel))))),by decide +kernel,by decide +kernel⟩
 ·omega
theorem add {es:Array (Int×Value)}{ep:Nat}{t:SetTable}{ks:Nat->K}{kx:K}{c:Addr}{Q:Bool->Shared->Prop}(hr:knd.room A)(S:RD knd s.heap a es ep t ks)(hx:knd.is s.heap kx c)(cl:Calm knd A s)(hb:Ut knd)(gH:es.size < 4000)
  (qt:(∃ i,i < es.size/\ks i=kx)->Q false s)
  (qf:∀ (h':Heap) (es':Array (Int×Value)) (UK:Nat) (t':SetTable),(∀ i,i < es.size->ks i≠kx)->Heap.SameBut a s.heap h'->h'.get? a=some (lC es' UK t')->Tab t' es'->es'.toList.Perm (es.toList++[(knd.hash kx,.ref c)])->Q true { s with heap:=h' }) :
  wpAny (model prog w) A (setAddHashed a (.ref c) (knd.hash kx)) Q E s:=by
 obtain ⟨N,n1,n2,n3⟩:=S.tab.first (knd.hash kx);have line:10000<=sizeLine:=by rw [sizeLine_eq];decide
 unfold setAddHashed setAddHashedIn;refine wpAny_holding (wpAny_bind (wpAny_setState_of S.obj rfl S.tab.fits ?_));dsimp only;rw [show byScan (.ref c) es=false from rfl];simp only [zg,if_false];refine wpAny_bind ?_;unfold setSearch;have lim:10 * (t.mask + 13) < 100000:=by
  rcases S.tab.mask with h | h | h | h | h | h <;> rw [h] <;> decide
 refine search hr S.obj rfl S.tab S.keys hx cl (λr h f=>?_) n2 n3 n1 (λnf=>?_) 100000 0 none (by omega) (za _) rfl (λn' h=>absurd h (yB _))
 ·exact wpAny_pure (qt f)
 ·dsimp only;refine wpAny_bind (wpAny_setState_of S.obj rfl S.tab.fits ?_);dsimp only;have m7:7<=t.mask:=by rcases S.tab.mask with h | h | h | h | h | h <;> omega
  have lt:=S.tab.sF;have Wh:SetTable.tooFull=λt=>decide (t.fill * 5 ≥ t.mask * 3):=rfl;have tail:∀ tt,(∃ pl,tt={ (t.put (at' t.mask (knd.hash kx) N)).1 with plain:=pl })->wpAny (model prog w) A (do
    storeSet a (SetTable.insertAt es (t.put (at' t.mask (knd.hash kx) N)).2 (knd.hash kx,Value.ref c)) tt
    if (!false && tt.tooFull)=true then do
     setRelay a (SetTable.grown (es.size + 1))
     pure true
    else pure true) Q E s:=by
   rintro tt ⟨pl,rfl⟩;obtain ⟨pt,pd,pm,ps⟩:=S.tab.put (x:=Value.ref c) n2 n3 pl;have pp:=SetTable.insertAt_perm es (t.put (at' t.mask (knd.hash kx) N)).2 (knd.hash kx,Value.ref c);rw [Array.toList_push] at pp;have sz:(SetTable.insertAt es (t.put (at' t.mask (knd.hash kx) N)).2 (knd.hash kx,Value.ref c)).size=es.size + 1:=by
    have:=pp.length_eq;rw [Array.length_toList,zG,Array.length_toList,zp] at this;exact this
   generalize (t.put (at' t.mask (knd.hash kx) N)).1=T1 at pt pd pm ps ⊢;generalize SetTable.insertAt es (t.put (at' t.mask (knd.hash kx) N)).2 (knd.hash kx,Value.ref c)=WZ at pt pp sz ⊢;have fit:({ T1 with plain:=pl }:SetTable).fits WZ.size=true:=by
    unfold SetTable.fits SetTable.fill;dsimp only;rw [ps,pd,sz,pm];simp;omega
   refine wpAny_bind (store S.obj (by omega) λh' sb go=>?_);have full:({ T1 with plain:=pl }:SetTable).tooFull=decide ((es.size + 1) * 5 ≥ t.mask * 3):=by
    unfold SetTable.tooFull SetTable.fill;dsimp only;rw [ps,pd,pm];rfl
   rw [full];by_cases c:(es.size + 1) * 5 ≥ t.mask * 3
   ·rw [decide_eq_true c];simp only [Bool.not_false,Bool.and_self,if_true];obtain ⟨gm,gl,gz⟩:=OV S.tab.mask (by rw [Nat.add_sub_cancel];exact lt) (by omega) c (by omega);obtain ⟨t2,order,er,pr,T2⟩:=vG (t:={ T1 with plain:=pl }) (es:=WZ) rfl gm (by rw [sz];exact gl);refine wpAny_bind ?_;unfold setRelay;refine wpAny_bind (wpAny_setState_of (s:={ s with heap:=h' }) go rfl fit ?_);dsimp only;rw [if_neg (by omega)];refine wpAny_bind ?_;rw [er];show wpAny (model prog w) A (if ((order.filterMap (WZ[·]?)).size != WZ.size)=true then _ else _) _ _ _;have s2:(order.filterMap (WZ[·]?)).size=WZ.size:=by have:=pr.length_eq;rw [Array.length_toList,Array.length_toList] at this;exact this
    rw [if_neg (by rw [s2];simp)];refine wpAny_pure ?_;dsimp only;refine store (s:={ s with heap:=h' }) go (by rw [s2];omega) λh2 sb2 go2=>?_;exact wpAny_pure (qf h2 _ _ _ nf (sb.trans sb2) go2 T2 (pr.trans pp))
   ·rw [decide_eq_false c];simp only [Bool.not_false,xW,zg,if_false];exact wpAny_pure (qf h' _ _ _ nf sb go (pt (by omega)) pp)
  split
  ·refine wpAny_bind (hb _ _ _ _ hx _ _ λv=>tail _ ?_);cases v with
   | true=>exact ⟨(t.put (at' t.mask (knd.hash kx) N)).1.plain,rfl⟩
   | false=>exact ⟨false,rfl⟩
  ·refine wpAny_bind (wpAny_pure (tail _ ⟨(t.put (at' t.mask (knd.hash kx) N)).1.plain,rfl⟩))
end
end gu
namespace gu
open PySem
section
variable {prog:Program}{w:World}{K:Type} [DecidableEq K] {knd:HeapKind prog w K}{A:Around}{E:Value->Shared->Prop}{s:Shared}{a:Addr}
theorem Wo {es:Array (Int×Value)}{ep:Nat}{t:SetTable}{ks:Nat->K}{kx:K}{c:Addr}{Q:Value->Shared->Prop}(hr:knd.room A.in1)(S:RD knd s.heap a es ep t ks)(hx:knd.is s.heap kx c)(cl:∀ B (s':Shared),s'.heap=s.heap->Calm knd B s')(hb:Ut knd)(gH:es.size < 4000)
  (qt:(∃ i,i < es.size/\ks i=kx)->Q .none { s with toks:=s.toks + knd.draws kx })
  (qf:∀ (h':Heap) (es':Array (Int×Value)) (UK:Nat) (t':SetTable),(∀ i,i < es.size->ks i≠kx)->Heap.SameBut a s.heap h'->h'.get? a=some (lC es' UK t')->Tab t' es'->es'.toList.Perm (es.toList++[(knd.hash kx,.ref c)])->Q .none { s with heap:=h',toks:=s.toks + knd.draws kx }) :
  wpAny (model prog w) A (call (.builtin "set.add") [.ref a,.ref c]) Q E s:=by
 refine wpAny_call_entry F.slot_set_add (nH S) F.entry_set_add ?_ (F.args_set_add_2 _ _);unfold Builtin.«set.add» Builtin.Frozenset.oneOther;simp only [List.isEmpty_nil,bind_assoc];unfold Builtin.Frozenset.addrOf setAdd;refine wpAny_bind (wpAny_pure ?_);try dsimp only
 refine wpAny_bind (wpAny_pure ?_);try dsimp only
 refine wpAny_bind ?_;refine wpAny_holding ?_;refine wpAny_bind (knd.pyHash hr hx ?_);refine add (s:={ s with toks:=s.toks + knd.draws kx }) hr ⟨S.obj,S.tab,S.keys⟩ hx (cl _ _ rfl) hb gH (λf=>?_) (λh' es' UK t' nf sb go T' pm=>?_)
 ·show wpAny _ _ (ret Value.none) _ _ _;exact wpAny_pure ⟨_,rfl,qt f⟩
 ·show wpAny _ _ (ret Value.none) _ _ _;exact wpAny_pure ⟨_,rfl,qf h' es' UK t' nf sb go T' pm⟩
end
section
variable {prog:Program}{w:World}{K:Type} [DecidableEq K] {knd:KeyKind prog w K}
theorem QG {v:Value}(h:carriedByValue v=true)(n:Nat):ofAClassStatement n v=pure false:=by
 cases v with
 | ref a=>cases h
 | _=>cases n <;> rfl
theorem vt {A:Around}{s:Shared}:Calm (tupleKind knd) A s:=by
 intro k b hk E Q q;have hT:s.TypeIs (.ref b) "tuple" := IsTupleKey.typeIs hk;obtain ⟨o,items,n,ho,hc,hd,hi⟩:=hk;unfold ofAClassStatement;refine wpAny_bind (wpAny_typeOf hT ?_);dsimp only;rw [if_pos (by decide)];refine wpAny_bind (wpAny_pure ?_);simp only [Bool.not_true,zg,if_false];refine wpAny_bind (wpAny_seqItems ho hd ?_);dsimp only;refine wpAny_bind ?_;rw [<-Array.forIn_toList];refine wpAny_forIn_list _ (λrest r s'=>r.1=none/\s'=s/\∀ v∈rest,carriedByValue v=true) _ ?_ ?_ _ _ ⟨rfl,rfl,hi.byValue⟩
 ·rintro v rest r s' ⟨hr,rfl,fL⟩;rw [QG (fL v yF)];refine wpAny_bind (wpAny_pure ?_);simp only [zg,if_false];exact wpAny_pure ⟨rfl,rfl,λu hu=>fL u (zn _ hu)⟩
 ·rintro ⟨r1,r2⟩ s' ⟨hr,rfl,_⟩;simp only at hr;subst hr;exact wpAny_pure q
theorem OB {v:Value}(h:carriedByValue v=true)(n:Nat):∃ c,hashByValue n v=pure c:=by
 cases v with
 | ref a=>cases h
 | _=>cases n <;> exact ⟨_,rfl⟩
theorem Qq:Ut (tupleKind knd):=by
 intro A s k b hk E Q q;have hT:s.TypeIs (.ref b) "tuple" := IsTupleKey.typeIs hk;obtain ⟨o,items,n,ho,hc,hd,hi⟩:=hk;unfold hashByValue;refine wpAny_bind (wpAny_specialOf hT F.slot_tuple_hash.lookup ?_);dsimp only;refine wpAny_bind (wpAny_seqItems ho hd ?_);dsimp only [Option.getD];refine wpAny_bind ?_;rw [<-Array.forIn_toList];refine wpAny_forIn_list _ (λrest r s'=>r.1=none/\s'=s/\∀ v∈rest,carriedByValue v=true) _ ?_ ?_ _ _ ⟨rfl,rfl,hi.byValue⟩
 ·rintro v rest r s' ⟨hr,rfl,fL⟩;obtain ⟨c,UG⟩:=OB (fL v yF) 7;rw [UG];refine wpAny_bind (wpAny_pure ?_);cases c with
  | true=>
   simp only [Bool.not_true,zg,if_false];exact wpAny_pure ⟨rfl,rfl,λu hu=>fL u (zn _ hu)⟩
  | false=>
   simp only [Bool.not_false,if_true];exact wpAny_pure (wpAny_pure (q _))
 ·rintro ⟨r1,r2⟩ s' ⟨hr,rfl,_⟩;simp only at hr;subst hr;exact wpAny_pure (q _)
end
end gu
namespace L2
open PySem PySem.Spec PyProof.Rows gu
noncomputable def kH (P:Program)(w:World)(a:Addr)(xs:List (Addr×List Int)):HO:=.ext λh=>∃ es ep t,h.get? a=some (lC es ep t)/\Tab t es/\es.toList.Perm (xs.map λx=>(tupleKeyHash (aW P w) (x.2.map Sum.inl),Value.ref x.1))
section
variable {X:Cx}{af:List (Addr×Obj)}{σ:St}{H:Hp}{s:Shared}{a:Addr}
theorem Py {P:Program}{w:World}{H:Hp}{h:Heap}{xs:List (Addr×List Int)}{es:Array (Int×Value)}{ep:Nat}{t:SetTable}(ho:h.get? a=some (lC es ep t))(T:Tab t es)(pm:es.toList.Perm (xs.map λx=>(tupleKeyHash (aW P w) (x.2.map Sum.inl),Value.ref x.1))) :
  bJ P w H h a (kH P w a xs):=⟨⟨es,ep,t,ho,T,pm⟩,⟨_,ho⟩,λh1 h2 ⟨es,ep,t,ho,T,pm⟩ k=>⟨es,ep,t,k _ ho,T,pm⟩⟩
theorem oH (ks:List Int):ks.map V.int=(ks.map Sum.inl).map kV:=by rw [zo];rfl
theorem Pz (I:Inv X af σ H s){xs:List (Addr×List Int)}(h:H a=some (kH X.prog X.w a xs))(hk:∀ e∈xs,H e.1=some (.tup (e.2.map V.int))) :
  ∃ es ep t ks,RD (tupleKind (aW X.prog X.w)) s.heap a es ep t ks/\es.toList.Perm (xs.map λx=>(tupleKeyHash (aW X.prog X.w) (x.2.map Sum.inl),Value.ref x.1)) /\
   (∀ k:List Int,(∃ i,i < es.size/\ks i=k.map Sum.inl)↔k∈xs.map (·.2)):=by
 obtain ⟨⟨es,ep,t,ho,T,pm⟩,_⟩:=I.bF a _ h;have pick:∀ i,∃ x:Addr×List Int,i < es.size->x∈xs/\es[i]?=some (tupleKeyHash (aW X.prog X.w) (x.2.map Sum.inl),Value.ref x.1):=λi=>by
  by_cases hi:i < es.size
  ·have:=pm.mem_iff.mp (show es[i]∈es.toList from by simp);obtain ⟨x,hx,e⟩:=zK.mp this;exact ⟨x,λ_=>⟨hx,by rw [Array.getElem?_eq_getElem hi,<- e]⟩⟩
  ·exact ⟨(0,[]),λz=>absurd z hi⟩
 refine ⟨es,ep,t,λi=>((pick i).choose).2.map Sum.inl,⟨ho,T,λi hi=>?_⟩,pm,λk=>⟨?_,λUD=>?_⟩⟩
 ·obtain ⟨h1,h2⟩:=(pick i).choose_spec hi;exact ⟨_,Option.some.inj ((Array.getElem?_eq_getElem hi).symm.trans h2),gS I.bF (by rw [hk _ h1,oH])⟩
 ·rintro ⟨i,hi,e⟩;obtain ⟨h1,h2⟩:=(pick i).choose_spec hi;have:((pick i).choose).2=k:=List.map_inj_right (λx y z=>Sum.inl.inj z) |>.mp e;exact zK.mpr ⟨_,h1,this⟩
 ·obtain ⟨x,hx,rfl⟩:=zK.mp UD;have:=pm.mem_iff.mpr (zK.mpr ⟨x,hx,rfl⟩);obtain ⟨i,hi,e⟩:=xK this;have fm:i < es.size:=by simpa using hi
  refine ⟨i,fm,?_⟩;obtain ⟨h1,h2⟩:=(pick i).choose_spec fm;have e':es[i]?=some (tupleKeyHash (aW X.prog X.w) (x.2.map Sum.inl),Value.ref x.1):=by rw [<-Array.getElem?_toList,zO hi,e]
  rw [h2] at e';have ea:((pick i).choose).1=x.1:=by injection e' with e';injection e' with _ e';injection e'
  have t1:=hk _ h1;have t2:=hk _ hx;rw [ea,t2] at t1;injection t1 with t1
  injection t1 with t1
  have:x.2=((pick i).choose).2:=List.map_inj_right (λx y z=>V.int.inj z) |>.mp t1;rw [this]
noncomputable def Vq (P:Program)(w:World):List V->Hp->VK->Prop:=λxs H Q=>xs=[]/\∀ p,H p=none->Q (.ref p) (upd H p (kH P w p []))
theorem NK:dm X (.type "set") (Vq X.prog X.w):=by intro af s σ H xs us Q I r h;obtain ⟨rfl,q⟩:=h;cases r;refine call_set_0 λled=>?_;refine ⟨.ref s.heap.objs.size,_,I.laid (a:=s.heap.objs.size) (o:=kH X.prog X.w s.heap.objs.size []) (t':=s.toks) (λ_ _ q=>Heap.get?_push_of_some _ q) (zD _) ?_,rfl,q _ (I.bF.fresh (zD _))⟩;exact Py (Heap.get?_push_size _ rfl) ⟨.inl rfl,rfl,.nil,rfl,(λ_ z=>nomatch z),(by show 0 * 5 < 7 * 3;decide),λi hi=>absurd hi (yB _)⟩ .nil
noncomputable def acv (P:Program)(w:World):R2:=λx y H Q=>∃ p xs c,∃ k:List Int,x=.ref c/\y=.ref p/\H p=some (kH P w p xs)/\H c=some (.tup (k.map V.int))/\(∀ e∈xs,H e.1=some (.tup (e.2.map V.int)))/\Q (.bl (decide (k∈xs.map (·.2)))) H
theorem S1 (hu:X.A.units + 64 < cLine):gI X (compareOp .In) (acv X.prog X.w):=by
 intro af s σ H x y v u Q I rx ry h;obtain ⟨p,xs,c,k,rfl,rfl,hp,hc,hk,q⟩:=h;cases rx;cases ry;obtain ⟨es,ep,t,ks,S,pm,mem⟩:=Pz I hp hk;refine inSet (knd:=tupleKind (aW X.prog X.w)) (kx:=k.map Sum.inl) (show X.A.units + 1 < cLine by omega) S (gS I.bF (by rw [hc,oH])) (λ_ _ _=>vt) (λf=>?_) (λnf=>?_)
 ·rw [decide_eq_true ((mem k).mp f)] at q;exact ⟨.bl true,H,I.kept (λ_ _ z=>z),rfl,q⟩
 ·rw [decide_eq_false λz=>by obtain ⟨i,hi,e⟩:=(mem k).mpr z;exact nf i hi e] at q;exact ⟨.bl false,H,I.kept (λ_ _ z=>z),rfl,q⟩
noncomputable def Z0 (P:Program)(w:World):V->List V->Hp->VK->Prop:=λx vs H Q=>∃ p xs c,∃ k:List Int,x=.ref p/\vs=[.ref c]/\H p=some (kH P w p xs)/\H c=some (.tup (k.map V.int))/\(∀ e∈xs,H e.1=some (.tup (e.2.map V.int)))/\xs.length < 4000 /\
 (k∈xs.map (·.2)->Q .bL H)/\(k ∉ xs.map (·.2)->Q .bL (upd H p (kH P w p (xs++[(c,k)]))))
theorem P5 (hu:X.A.units + 64 < cLine):MtR X "set.add" (Z0 X.prog X.w):=by
 intro af s σ H x vs v us Q I rx rv h;obtain ⟨p,xs,c,k,rfl,rfl,hp,hc,hk,gH,q1,q2⟩:=h;cases rx;obtain ⟨u,rfl,ru⟩:=rv.one;cases ru;obtain ⟨es,ep,t,ks,S,pm,mem⟩:=Pz I hp hk;have sz:es.size=xs.length:=by have:=pm.length_eq;rw [Array.length_toList,zA] at this;exact this
 refine Wo (knd:=tupleKind (aW X.prog X.w)) (kx:=k.map Sum.inl) (show X.A.units + 1 < cLine by omega) S (gS I.bF (by rw [hc,oH])) (λ_ _ _=>vt) Qq (by omega) (λf=>?_) (λh' es' UK t' nf sb go T' WG=>?_)
 ·exact ⟨.bL,H,I.kept (λ_ _ z=>z),rfl,q1 ((mem k).mp f)⟩
 ·refine ⟨.bL,_,I.write (x:=p) (e:=p) (by rw [hp];trivial) (.inl rfl) (λb o hb z=>(sb.2 b hb).trans z) ⟨_,go⟩ (Py go T' ?_),rfl,q2 λz=>by obtain ⟨i,hi,e⟩:=(mem k).mpr z;exact nf i hi e⟩;rw [zE];exact WG.trans (pm.append_right _)
noncomputable def acj (P:Program)(w:World)(r:V->List V->Hp->VK->Prop)(to:TE)(t:TA):TE:=fun σ H Q=>to σ H λx H1=>(∃ p xs,x=.ref p/\H1 p=some (kH P w p xs))/\t σ H1 λxs H2=>r x xs H2 Q
theorem SW {o e:Expr}{es:List Expr}{to:TE}{t:TA}{name:Str}{apos iH:Pos}{id:String}{r:V->List V->Hp->VK->Prop}(slot:Slot "set" name id)(hty:typeOf (.builtin id)=pure (.type "method_descriptor"))(hm:MtR X id r)(ho:PE X o to)(ha:PA X (e::es) t)
  (TV:attributeBase o name X.env (eval o X.env)=eval o X.env:=by rfl)
  (YB:((backTo iH (starEach (e::es) X.env)).all (λx=>!x.1) && (backToKw iH (keywordEach [] X.env)).all (λx=>x.1.isSome)
   && decide ((e::es).length + ([]:List Keyword).length + (if ([]:List Keyword).isEmpty then 0 else 1) < 30))=true:=by rfl)
  (TM:(apos.endLine == iH.line)=true:=by rfl) (hs:starEach (e::es) X.env=(false,eval e X.env)::starEach es X.env:=by rfl) (OS:(backTo iH (starEach es X.env)).any (·.1)=false:=by rfl) :
  PE X (.Call (.Attribute o name apos) (e::es) [] iH) (acj X.prog X.w r to t):=by
 intro af s σ H Q I h;refine wpAny_Call_method_late TV YB TM rfl (bG (ho af s σ H _ I h) λv s1 z722=>?_);obtain ⟨x,H1,I1,r1,⟨p,xs,ex,hp⟩,q1⟩:=z722;subst ex;cases r1;obtain ⟨⟨es',ep,tt,UB,_⟩,_⟩:=I1.bF p _ hp;refine ⟨"set", id,F.plainAttrs_set,slot,hty,⟨_,UB,rfl⟩,λa e=>by cases e;exact ⟨_,UB,rfl⟩,?_⟩;have hA:=ha iH af s1 σ H1 _ I1 q1;rw [hs] at hA ⊢;refine Calls.callWith_builtin (by show (false || (backTo iH (starEach es X.env)).any (·.1))=false;rw [OS] <;> rfl) (Calls.evalArgs_plain ?_);exact bG hA λus s2 z723=>by obtain ⟨vs,H2,I2,r2,q2⟩:=z723;exact hm af s2 σ H2 (.ref p) vs (.ref p) us Q I2 rfl r2 q2
end
end L2
namespace L2
open PySem PySem.Spec PyProof.Rows PySem.W
theorem VM {P:Program}{w:World}{K:PySem.W.Frag}{mg:Str->Option Value}{base:Heap}{k:Nat}{f c':Addr}{name qual:Str}{params:Arguments}{body:Expr}{scope:Scope}{pm uO:Value}{N ps:List Str}
  {A:Around}{outer:List Env}{s:Shared}{H:Hp}{us:List Value}{vs:List V}{Q:VK} (S:aF N ps scope) (hr:cN (k + 1) A) (e0:pQ P w K mg base A outer s H)
  (ho:s.heap.get? f=some (kla_obj name qual params body scope [] pm c' uO)) (Nl:s.heap.CodeRec (.ref c') qual) (hb:bindArgs (kla_fn name qual params body scope [] pm (.ref c') uO) ⟨us,[]⟩=pure (ps.zip us)) (hl:vs.length=ps.length) (r:Vals vs us)
  (jL:∃ t,PE (gA cB P w K mg base N qual scope f (.ref c') A outer s H E0).S3 body t/\t (start N vs) H Q) :
  codeAny (model P w) A (.call (.ref f) ⟨us,[]⟩) (CR cB outer P w H s Q E0) s:=by
 have lim:s.heap.NoLimit:=e0.mod.nolimit.keeps λb o e=>(e0.bs b o e).1;have TQ:∀ y∈ps.zip us,scope.names.lookup y.1=some .local\/(scope.names.lookup y.1=some .cell/\((cellsFrom (s.heap.objs.size + 1) scope.names []).lookup y.1).isSome=true):=λ⟨n,v⟩ hy=>by
  rcases S.par n (List.of_mem_zip hy).1 with q | q
  ·exact .inl q
  ·exact .inr ⟨q,PySem.W.cellsFrom_some _ _ _ (.inl q)⟩
 refine kla_callFunE hr.depth ho rfl S.co S.gen rfl Nl ?_;rw [hb];refine wpAny_pure ?_;refine wpAny_newFunctionEnv_cells S.kind TQ λenv he s1 x=>?_;subst he;refine ⟨lim.keeps x.toInCall.keep,kla_codeExpr ?_⟩;obtain ⟨t,ht,hq⟩:=jL;have I:Inv (gA cB P w K mg base N qual scope f (.ref c') A outer s H E0) [] (start N vs) H s1:=sJ S hr.hd e0 hl r x;refine wpAny_mono (ht.S3 [] s1 (start N vs) H _ I hq) (λu s' hs=>?_) λe s' hs=>hs;obtain ⟨v,H',J,rv,q⟩:=hs;exact ⟨v,H',J.os,J.bare,J.base,J.bF,rv,q⟩
def pe (c:Addr)(qual:Str):HO:=.ext λh=>h.CodeRec (.ref c) qual
noncomputable def MT (P:Addr)(pos:Pos)(qual:Str)(H:Hp):Prop:=H P=some (.lG #[])\/∃ c,H P=some (.lG #[rawInt pos.line,rawInt pos.col,.ref c])/\H c=some (pe c qual)
noncomputable def bq (mg:Str->Option Value)(base:Heap):Prop:=∃ bm o,mg "__builtins__" = some (.ref bm)/\bm≠builtinsNs/\bm≠mainGlobals/\base.get? bm=some o/\o.cls=.type "module" /\ o.dict=some builtinsNs/\o.data=.plain
section
variable {X:Cx}{af:List (Addr×Obj)}{σ:St}{H:Hp}{s:Shared}
theorem Inv.aaV (I:Inv X af σ H s):∀ b∈X.fs,b < s.heap.objs.size:=λb hb=>by
 obtain ⟨_,o,ho,_⟩:=I.ok.jO.mem hb;exact zT (Heap.lt_size ho) I.sz
theorem Uc {P:Program}{w:World}{H:Hp}{h:Heap}{c:Addr}{qual:Str}(r:h.CodeRec (.ref c) qual):bJ P w H h c (pe c qual):=by obtain ⟨c2,oc,vs,t,e,ho,hd,hv⟩:=id r;cases e;exact ⟨r,⟨_,ho⟩,λh1 h2 ⟨c2,oc,vs,t,e,ho,hd,hv⟩ k=>by cases e;exact ⟨c,oc,vs,t,rfl,k _ ho,hd,hv⟩⟩
theorem Tp {P c:Addr}{pos:Pos}{params:Arguments}{body:Expr}{scope:Scope}{Q:Value->Shared->Prop}(I:Inv X af σ H s)(mt:MT P pos (X.env.qual ++ "<lambda>") H)(P8:X.env.code=.ref c)(hd:codeHdIn X.K c P=true)(bm:bq X.mg X.base)
  (YC:defaultsOf params X.env=([],[])) (Zm:closureFor scope X.env=pure [])
  (h:∀ f c' uO pm H' s',Inv X ((f,kla_obj "<lambda>" (X.env.qual ++ "<lambda>") params body scope [] pm c' uO)::af) σ H' s'->H' c'=some (pe c' (X.env.qual ++ "<lambda>"))->Sm.cL P H H'->MT P pos (X.env.qual ++ "<lambda>") H'->Q (.ref f) s') :
  wpAny (model X.prog X.w) X.A (eval (.Lambda params body scope pos) X.env) Q X.xe s:=by
 refine kla_eval YC ?_;have glob:s.heap.Ns mainGlobals X.mg:=I.mod.glob.keeps I.bk;have C:CodeHd s.heap c P:=codeHd_of_K I.mj hd;have tr:∃ o,H P=some o:=by rcases mt with e | ⟨_,e,_⟩ <;> exact ⟨_,e⟩
 have j3:∀ b o,X.base.get? b=some o->b≠P:=λb o e z=>by
  have:=(I.bs b o e).2;obtain ⟨u,hu⟩:=tr;rw [z,hu] at this;cases this
 have hgP:mainGlobals≠P:=by
  obtain ⟨o,_,_,e,_⟩:=I.mod.glob;exact j3 _ _ e
 have hB:s.heap.BuiltinsAt X.mg P:=by
  obtain ⟨b,o,e1,e2,e3,e4,e5,e6,e7⟩:=bm;exact ⟨b,o,e1,e2,e3,j3 _ _ e4,I.bk _ _ e4,e5,e6,e7⟩
 have pin:∀ {h':Heap}{H':Hp}{ob:Obj}{tk:Nat},Inv X af σ H' { s with heap:=h'.push ob,toks:=tk }->s.heap.objs.size<=h'.objs.size->H' h'.objs.size=none->(∀ v,ob.data≠.cell v)->ob.isFreed=false->Inv X ((h'.objs.size,ob)::af) σ H' { s with heap:=h'.push ob,toks:=tk }:=λ{h' H' ob tk} J hs hn nc nf=>
  J.cV λp hp=>by
   rcases zH.mp hp with rfl | hp
   ·exact ⟨Heap.get?_push_size _ nf,hn,yb (zT I.lt hs),λz=>yS _ (zT (I.aaV _ z) hs),nc⟩
   ·exact J.pin p (zQ _ hp)
 rcases mt with mt | ⟨c1,mt,hc1⟩
 ·have hP:s.heap.get? P=some (tabObj #[]):=I.bF P _ mt;refine kla_makeFunction Zm I.ok.glob glob P8 C hP trivial rfl hgP hB λc' uO h' tk hx hge c8 rec hP'=>?_;have fr:H c'=none:=I.bF.fresh hge;have ncP:c'≠P:=λz=>by rw [z,mt] at fr;cases fr
  have acs:(h'.push (kla_obj "<lambda>" (X.env.qual ++ "<lambda>") params body scope [] ((X.mg "__name__").getD .none) c' uO)).CodeRec (.ref c') (X.env.qual ++ "<lambda>"):=by
   obtain ⟨c2,oc,vs,t,e,ho,hd,hv⟩:=rec;exact ⟨c2,oc,vs,t,e,Heap.get?_push_of_some _ ho,hd,hv⟩
  have kp:∀ b o,b≠P->s.heap.get? b=some o->(h'.push (kla_obj "<lambda>" (X.env.qual ++ "<lambda>") params body scope [] ((X.mg "__name__").getD .none) c' uO)).get? b=some o:=λb o hb e=>Heap.get?_push_of_some _ (hx b o hb e);have hP2:=Heap.get?_push_of_some (kla_obj "<lambda>" (X.env.qual ++ "<lambda>") params body scope [] ((X.mg "__name__").getD .none) c' uO) hP';have at_:∀ b,b≠P->b≠c'->upd (upd H P (.lG #[rawInt pos.line,rawInt pos.col,.ref c'])) c' (pe c' (X.env.qual ++ "<lambda>")) b=H b:=λb h1 h2=>by rw [wF h2,wF h1]
  have neT:∀ b u,H b=some u->u≠.lG #[]->b≠P:=λb u e n z=>by rw [z,mt] at e;cases e;exact n rfl
  have S8:∀ b u,H b=some u->b≠c':=λb u e z=>by rw [z,fr] at e;cases e
  have lt:∀ b o,s.heap.get? b=some o->b≠c':=λb o e=>zY (zT (Heap.lt_size e) hge);have aP:upd (upd H P (.lG #[rawInt pos.line,rawInt pos.col,.ref c'])) c' (pe c' (X.env.qual ++ "<lambda>")) P=some (.lG #[rawInt pos.line,rawInt pos.col,.ref c']):=by rw [wF ncP.symm,xq]
  have J:Inv X af σ (upd (upd H P (.lG #[rawInt pos.line,rawInt pos.col,.ref c'])) c' (pe c' (X.env.qual ++ "<lambda>"))) { s with heap:=h'.push (kla_obj "<lambda>" (X.env.qual ++ "<lambda>") params body scope [] ((X.mg "__name__").getD .none) c' uO),toks:=tk }:=by
   refine I.un ⟨λb o e n _ _=>kp b o (λz=>by rw [z,mt] at n;cases n) e,λb o e n _ _=>⟨o.slots,kp b o (λz=>by rw [z,mt] at n;cases n) e⟩,λb o e n _=>?_,λb o e _=>?_,λb xs e=>?_,λb o u e=>?_,λb ps e=>?_⟩ λb u e=>?_
   ·rw [at_ b (λz=>by rw [z,mt] at n;cases n) (lt b o e)];exact n
   ·by_cases z:b=P
    ·exact ⟨_,by rw [z];exact hP2⟩
    ·exact ⟨o,kp b o z e⟩
   ·rw [at_ b (neT b _ e (by intro z;cases z)) (S8 b _ e)];exact e
   ·rw [at_ b (neT b _ e (by intro z;cases z)) (S8 b _ e)];exact e
   ·by_cases z:b=P
    ·rw [z,mt] at e;cases e;exact ⟨_,by rw [z,aP,Array.empty_append]⟩
    ·exact ⟨#[],by rw [at_ b z (S8 b _ e),e,Array.append_empty]⟩
   ·by_cases z:b=c'
    ·subst z;rw [xq] at e;cases e;exact Uc acs
    ·by_cases z2:b=P
     ·rw [z2,aP] at e;cases e;rw [z2];exact hP2
     ·rw [at_ b z2 z] at e;refine (I.bF b u e).dX (λb' v hb q=>kp b' v (λy=>?_) q) (λb' q=>by rw [at_ b' (neT b' _ q (by intro z;cases z)) (S8 b' _ q)];exact q) λb' xs q=>by rw [at_ b' (neT b' _ q (by intro z;cases z)) (S8 b' _ q)];exact q
      rcases hb with hb | hb
      ·exact z2 (hb.symm.trans y)
      ·rw [y,mt] at hb;cases hb
  have nf:upd (upd H P (.lG #[rawInt pos.line,rawInt pos.col,.ref c'])) c' (pe c' (X.env.qual ++ "<lambda>")) h'.objs.size=none:=by
   rw [at_ h'.objs.size (yb (Heap.lt_size hP')) (yb c8)];exact I.bF.fresh (by omega)
  refine h _ c' uO ((X.mg "__name__").getD .none) _ _ (pin J (by omega) nf (by intro v z;cases z) rfl) xq (λb u hb e=>?_) (.inr ⟨c',aP,xq⟩);rw [at_ b hb (S8 b _ e)];exact e
 ·have hP:s.heap.get? P=some (tabObj #[rawInt pos.line,rawInt pos.col,.ref c1]):=I.bF P _ mt;refine kla_makeFunctionHit (cv:=.ref c1) Zm I.ok.glob glob P8 C hP ⟨⟩ ?_ hB λuO h' tk kp hs=>?_
  ·have:=codeAmong_snoc (pos:=pos) (c:=Value.ref c1) [] trivial rfl;exact this
  ·have J:Inv X af σ H { s with heap:=h'.push (kla_obj "<lambda>" (X.env.qual ++ "<lambda>") params body scope [] ((X.mg "__name__").getD .none) c1 uO),toks:=tk }:=I.kept λb o e=>Heap.get?_push_of_some _ (kp b o e);refine h _ c1 uO ((X.mg "__name__").getD .none) H _ (pin J hs (I.bF.fresh hs) (by intro v z;cases z) rfl) hc1 (Sm.cL.refl P H) (.inr ⟨c1,mt,hc1⟩)
end
end L2
namespace L2
open PySem PySem.Spec PyProof.Rows PySem.W bh
section
variable {X:Cx}{af:List (Addr×Obj)}{σ:St}{H:Hp}{s:Shared}
theorem Inv.adopt {h':Heap}{D:Addr}{xs:List V}{aH:List Value}{n t':Nat}(I:Inv X af σ H s)(k:∀ b o,b≠D->s.heap.get? b=some o->h'.get? b=some o)(hn:H D=none)(hs:X.dh.heap.objs.size<=D)(hL:D≠X.env.locals)
  (h2:∀ x c,X.env.cells.lookup x=some c->c≠D) (h3:∀ p∈X.pn++af,p.1≠D) (ho:h'.get? D=some { cls:=.type "list", data:=.seq aH.toArray n }) (hv:Vals xs aH) (hz:xs.length<=sizeLine) :
  Inv X af σ (upd H D (.lst xs)) { s with heap:=h',toks:=t' }:=by
 have nD:∀ b u,H b=some u->b≠D:=λb u e z=>by rw [z,hn] at e;cases e
 refine I.step (g':=s.gens) (d':=s.drawn) (ch:=[D]) (λb hb=>?_) (λb o _ _ hc e _=>k b o (λz=>hc (by simp [z])) e) (λb o _ _ hc e _=>⟨o.slots,k b o (λz=>hc (by simp [z])) e⟩)
  (λb o hc e n=>by rw [wF (λz=>hc (by simp [z]))];exact n) (λb o hc e=>⟨o,k b o (λz=>hc (by simp [z])) e⟩) (λb ys e=>by rw [wF (nD b _ e)];exact e) (λb o u e=>by rw [wF (nD b _ e)];exact e)
  (λb ps e=>⟨#[],by rw [wF (nD b _ e),e];simp⟩) (λm hm=>?_) (λb u e=>?_) I.bare
 ·have e:b=D:=by simpa using hb
  subst e;exact ⟨.inr hs,hL,h2,h3⟩
 ·obtain ⟨o,es,ep,rj,r⟩:=hm;exact ⟨o,es,ep,k _ o (Ne.symm hL) rj,r⟩
 ·by_cases hb:b=D
  ·subst hb;rw [xq] at e;cases e;exact ⟨hz,aH,n,hv,ho⟩
  ·rw [wF hb] at e;refine (I.bF b u e).dX (λc v hc q=>k c v ?_ q) (λc q=>by rw [wF (nD c _ q)];exact q) λc ys q=>by rw [wF (nD c _ q)];exact q
   rcases hc with z | z
   ·rw [z];exact hb
   ·exact nD c _ z
theorem Inv.YW (I:Inv X af σ H s){x:Str}{c:Addr}(h:X.env.cells.lookup x=some c):c < s.heap.objs.size:=by obtain ⟨v,o,ho,_⟩:=I.cell x c h;exact Heap.lt_size ho
theorem RX {a b:List Value}(h:b.length<=a.length):(a.toArray.zip b.toArray).map (·.2)=b.toArray:=by apply Array.toList_inj.mp;rw [Array.toList_map,ksk_zip];exact List.map_snd_zip h
structure Y4 (X:Cx) (af:List (Addr×Obj)) (σ:St) (H:Hp) (kS:Addr) (kf:List Int->List Int) (ps:List (Addr×List Int)) (i:Nat) (s':Shared):Prop where
 ex:∃ H',∃ ks:List (Addr×List Int),Inv X af σ H' s'/\H' kS=some (.lst (ks.map λk=>V.ref k.1))/\(∀ b u,H b=some u->H' b=some u)/\(∀ k∈ks,H' k.1=some (.tup (k.2.map V.int)))/\ks.map (·.2)=(ps.take i).map λa=>kf a.2
theorem QB {f:Value}{D:Addr}{h:Heap}{kf:List Int->List Int}{ps:List (Addr×List Int)}{A:Around}{P:PySem.Fin->Shared->Prop}{E:Value->Shared->Prop}{t0:Nat}(I:Inv X af σ H s)(kp:∀ b o,s.heap.get? b=some o->h.get? b=some o)(V8:s.heap.objs.size<=D)(hDh:D < h.objs.size)
  (hD:h.get? D=some (seqObj "list" (ps.map λa=>Value.ref a.1).toArray 0)) (h64:ps.length < 64) (rows:∀ a∈ps,H a.1=some (.tup (a.2.map V.int))) (kne:∀ a∈ps,kf a.2≠[])
  (turn:∀ (iR:List (Addr×Obj)) (a:Addr) (r:List Int) (s':Shared) (H':Hp),(∀ p∈af,p∈iR)->(a,r)∈ps->Inv X iR σ H' s'->(∀ b u,H b=some u->H' b=some u) ->
   wpAny (model X.prog X.w) A (call f [.ref a]) (EP X iR σ λv Y6=>∃ t,v=.ref t/\aG H' Y6/\Y6 t=some (.tup ((kf r).map V.int))) (λ_ _=>False) s')
  (q:∀ qs H2 s2,Inv X af σ (upd H2 D (.lst (qs.map λa=>V.ref a.1))) s2->H2 D=none->(∀ b u,H b=some u->H2 b=some u)->List.Perm qs ps->qs.Pairwise (λa b=>lx (kf b.2) (kf a.2)=false)->P (.done (.ret .none)) s2) :
  wpAny (model X.prog X.w) A (ksk_tree D f false) P E { s with heap:=h,toks:=t0 }:=by
 have line:100<=sizeLine:=by rw [sizeLine_eq];decide
 unfold ksk_tree;refine wpAny_bind (listItems_at (s:={ s with heap:=h,toks:=t0 }) hD rfl ?_);refine wpAny_bind (listUpdate_at (s:={ s with heap:=h,toks:=t0 }) hD rfl ?_ (by rw [zR,zA];omega) (za _));obtain ⟨e1,ho1⟩:∃ e1,(h.update D (Obj.mapSeq λ_=>(#[]:Array Value))).get? D=some (seqObj "list" #[] e1):=⟨_,get?_update_seq hD λ_=>#[]⟩;refine wpAny_bind (seqEpoch_at ho1 rfl ?_);refine wpAny_bind (wpAny_newTuple ?_ (by show (ps.map λa=>Value.ref a.1).length<=_;rw [zA];omega));refine wpAny_bind (wpAny_newList ?_ (za _));refine wpAny_holding ?_;have sz2:((h.update D (Obj.mapSeq λ_=>(#[]:Array Value))).push (seqObj "tuple" (ps.map λa=>Value.ref a.1).toArray 0)).objs.size=h.objs.size + 1:=by rw [size_push',Heap.size_update]
 show wpAny _ _ (ksk_rest D f false (ps.map λa=>Value.ref a.1).toArray e1 (.ref ((h.update D (Obj.mapSeq λ_=>(#[]:Array Value))).push (seqObj "tuple" (ps.map λa=>Value.ref a.1).toArray 0)).objs.size)) _ _ _;rw [sz2];have kS1:D < h.objs.size + 1:=yn hDh;have kp3:∀ b o,s.heap.get? b=some o->(((h.update D (Obj.mapSeq λ_=>(#[]:Array Value))).push (seqObj "tuple" (ps.map λa=>Value.ref a.1).toArray 0)).push (seqObj "list" #[] 0)).get? b=some o:=λb o e=>by
  refine Heap.get?_push_of_some _ (Heap.get?_push_of_some _ ?_);rw [Heap.get?_update_ne _ _ _ _ (zY (zT (Heap.lt_size e) V8))];exact kp b o e
 have atK:=Heap.get?_push_size ((h.update D (Obj.mapSeq λ_=>(#[]:Array Value))).push (seqObj "tuple" (ps.map λa=>Value.ref a.1).toArray 0)) (o:=seqObj "list" #[] 0) rfl;rw [sz2] at atK;have atD:=Heap.get?_push_of_some (seqObj "list" #[] 0) (Heap.get?_push_of_some (seqObj "tuple" (ps.map λa=>Value.ref a.1).toArray 0) ho1);have szS:s.heap.objs.size<=h.objs.size + 1:=yC V8 (xY (yn hDh));have I3:Inv X af σ (upd H (h.objs.size + 1) (.lst [])) { s with heap:=((h.update D (Obj.mapSeq λ_=>(#[]:Array Value))).push (seqObj "tuple" (ps.map λa=>Value.ref a.1).toArray 0)).push (seqObj "list" #[] 0),toks:=t0 }:=
  I.laid kp3 szS (show bJ X.prog X.w _ _ _ (.lst []) from ⟨za _,[],0,.nil,atK⟩)
 have fD:H D=none:=I.bF.fresh V8;have I4:=I3.cV (iR:=(D,seqObj "list" #[] e1)::af) λp hp=>by
  rcases zH.mp hp with rfl | hp
  ·exact ⟨atD,by rw [wF (zY kS1)];exact fD,yb (zT I.lt V8),λz=>yS _ (zT (I.aaV _ z) V8),by intro v z;cases z⟩
  ·exact I3.pin p (zQ _ hp)
 generalize ((h.update D (Obj.mapSeq λ_=>(#[]:Array Value))).push (seqObj "tuple" (ps.map λa=>Value.ref a.1).toArray 0)).push (seqObj "list" #[] 0)=h3 at I4 ⊢;have fK:H (h.objs.size + 1)=none:=I.bF.fresh szS;generalize hkS:h.objs.size + 1=kS at *;unfold ksk_rest;refine wpAny_bind (wpAny_rule ?_);rw [List.forIn_toArray];refine wpAny_bind (ksk_fold (λi s'=>Y4 X ((D,seqObj "list" #[] e1)::af) σ H kS kf ps i s') (ps.map λa=>Value.ref a.1) 0 _ ⟨_,[],I4,xq,λb u e=>by rw [wF (wC e fK)];exact e,(λ_ z=>nomatch z),rfl⟩ ?step ?done)
 case step=>
  rintro j x s' hx ⟨H',ks,J,hk,ext,hks,ek⟩;rw [xc] at ek;rw [zS] at hx;cases ea:ps[j]? with
  | none=>rw [ea] at hx;cases hx
  | some a=>
   rw [ea] at hx;have hx:Value.ref a.1=x:=Option.some.inj hx;subst hx;refine wpAny_bind (wpAny_attempt (wpAny_mono (turn _ a.1 a.2 s' H' (λp hp=>zn _ hp) (zB ea) J ext) (λv QD he=>?_) λ_ _ hF=>hF.elim));obtain ⟨v',Y6,J2,rv,t,rfl,sm,ht⟩:=he;cases rv;have uA:=sm _ _ hk;obtain ⟨z,aH,n,r,hl,e⟩:=J2.ur uA;have lk:ks.length<=j:=by have:=congrArg List.length ek;rw [zA,zA,zV] at this;omega
   have jl:j < ps.length:=(zC.mp ea).1;have li:aH.length=ks.length:=by rw [<-hl,zA]
   dsimp only;refine wpAny_bind (listUpdate_at e rfl ?_ (by rw [zR];omega) (by rw [Array.size_push,zR];omega));have ne:∀ b u,H b=some u->b≠kS:=λb u e=>wC e fK;have J3:Inv X ((D,seqObj "list" #[] e1)::af) σ (upd Y6 kS (.lst ((ks++[(t,kf a.2)]).map λk:Addr×List Int=>V.ref k.1))) { QD with heap:=QD.heap.update kS (Obj.mapSeq (·.push (Value.ref t))),toks:=QD.toks }:=
    J2.VI (its':=aH++[Value.ref t]) uA e (by simp) (by rw [zE];exact r.append (.cons rfl .nil)) (by rw [zA,zG,zp];omega)
   refine wpAny_pure ⟨rfl,_,ks++[(t,kf a.2)],J3,xq,λb u e=>by rw [wF (ne b u e)];exact sm _ _ (ext b u e),λk UD=>?_,?_⟩
   ·rcases zW.mp UD with h' | h'
    ·have:=sm _ _ (hks k h');rw [wF (cZ this uA (by intro z;cases z))];exact this
    ·cases zJ.mp h';rw [wF (cZ ht uA (by intro z;cases z))];exact ht
   ·rw [xc,zE,ek,List.take_add_one,ea,zE];rfl
 case done=>
  rintro s' ⟨H',ks,J,hk,ext,hks,ek⟩;rw [xc,zA,zq] at ek;obtain ⟨z,aH,n,r,hl,e⟩:=J.ur hk;refine wpAny_bind (listItems_at e rfl ?_);have ei:=iu r;subst ei;have lks:ks.length=ps.length:=by have:=congrArg List.length ek;rw [zA,zA] at this;exact this
  have Z2:=J.pin (D,seqObj "list" #[] e1) (zQ _ (.head _));have s0D:X.dh.heap.objs.size<=D:=yC I.sz V8;have kSD:kS≠D:=yb kS1
  -- Wx end
  have tail:∀ (st:SortSt) (qs:List (Addr×List Int)),(arrOf st).map (·.2)=(qs.map λa=>Value.ref a.1).toArray->failedOf st=none->List.Perm qs ps->qs.Pairwise (λa b=>lx (kf b.2) (kf a.2)=false)->wpAny (model X.prog X.w) A (ksk_tail D false e1 (.ref kS) st) P E s':=λst qs har hf pm so=>by
   have lq:qs.length < 64:=by rw [pm.length_eq];exact h64
   unfold ksk_tail;dsimp only;rw [har,hf];refine wpAny_bind (listUpdate_at e rfl ?_ (by rw [zR,zA];omega) (za _));refine wpAny_bind (wpAny_letGo ?_);have s1:=Heap.SameBut.update s'.heap kS (Obj.mapSeq λ_=>(#[]:Array Value));have aD:(s'.heap.update kS (Obj.mapSeq λ_=>(#[]:Array Value))).get? D=some (seqObj "list" #[] e1):=(s1.2 D kSD.symm).trans Z2.1;refine wpAny_bind (seqEpoch_at aD rfl ?_);refine wpAny_bind (listUpdate_at aD rfl ?_ (za _) (by show (qs.map λa=>Value.ref a.1).toArray.size<=_;rw [zR,zA];omega));simp only [bne_self_eq_false,zg,if_false];have J2:=J.VI (its':=[]) (f:=λ_=>#[]) (t':=s'.toks) hk e (by simp) (.nil:Vals [] []) (za _);have J3:Inv X af σ (upd H' kS (.lst [])) { s' with heap:=s'.heap.update kS (Obj.mapSeq λ_=>(#[]:Array Value)) }:=J2.cV λp hp=>J2.pin p (zQ _ (.tail _ hp));obtain ⟨c2,hc2⟩:∃ c2,((s'.heap.update kS (Obj.mapSeq λ_=>(#[]:Array Value))).update D (Obj.mapSeq λ_=>(qs.map λa=>Value.ref a.1).toArray)).get? D=some (seqObj "list" (qs.map λa=>Value.ref a.1).toArray c2):=⟨_,get?_update_seq aD _⟩;have hnD:(upd H' kS (.lst [])) D=none:=by rw [wF kSD.symm];exact Z2.2.1
   have J4:Inv X af σ (upd (upd H' kS (.lst [])) D (.lst (qs.map λa=>V.ref a.1))) { s' with heap:=(s'.heap.update kS (Obj.mapSeq λ_=>(#[]:Array Value))).update D (Obj.mapSeq λ_=>(qs.map λa=>Value.ref a.1).toArray),toks:=s'.toks }:=
    J3.adopt (λb o hb q=>(Heap.get?_update_other _ _ (Ne.symm hb)).trans q) hnD s0D (yb (zT I.lt V8)) (λx c hc=>zY (zT (I.YW hc) V8)) (λp hp=>zY (zT (Heap.lt_size (I.pin p hp).1) V8)) hc2 (fQ qs) (by rw [zA];omega)
   refine wpAny_pure (q qs _ _ J4 hnD (λb u e=>?_) pm so);rw [wF (wC e fK)];exact ext b u e
  unfold ksk_end;dsimp only;rw [if_neg (by decide:¬ false=true)];have szi:(ps.map λa=>Value.ref a.1).toArray.size=ps.length:=by rw [zR,zA]
  by_cases h2:ps.length < 2
  ·have WT:(ps.map λa=>Value.ref a.1).toArray.size < 2:=by rw [szi];exact h2
   rw [if_pos WT,if_pos WT];refine wpAny_bind (wpAny_pure ?_);rw [StateT.run_pure];refine wpAny_bind (wpAny_pure ?_);dsimp only;refine tail _ ps ?_ rfl (List.Perm.refl _) ?_
   ·show ((ks.map λa=>Value.ref a.1).toArray.zip (ps.map λa=>Value.ref a.1).toArray).map (·.2)=_;exact RX (by rw [zA,zA,lks];exact zD _)
   ·match ps,h2 with
    | [],_=>exact .nil
    | [_],_=>exact List.pairwise_singleton _ _
  ·have WT:¬ (ps.map λa=>Value.ref a.1).toArray.size < 2:=by rw [szi];exact h2
   rw [if_neg WT,if_neg WT];have rowAt:∀ a∈ks,Ur s'.heap a.1 a.2/\a.2≠[]:=λa ha=>by
    obtain ⟨_,aH,rv,o,e,c,n,d⟩:=J.bF a.1 _ (hks a ha);refine ⟨⟨o,_,n,e,c,d,rv⟩,?_⟩;have:a.2∈ks.map (·.2):=zK.mpr ⟨a,ha,rfl⟩;rw [ek] at this;obtain ⟨b,hb,eb⟩:=zK.mp this;rw [<-eb];exact kne b hb
   obtain ⟨fs,kt,lf,hf⟩:=ou rowAt;refine wpAny_bind (kat_kind (T:=.type "int") kt (by omega) (λv hv=>?_) (by decide) ?_)
   ·obtain ⟨i,t,rfl⟩:=hf v hv;exact Looks.now
   have n1:1<=(ps.map λa=>Value.ref a.1).length:=by rw [zA];omega
   have hkl:(ks.map λa=>Value.ref a.1).length=(ps.map λa=>Value.ref a.1).length:=by rw [zA,zA];exact lks
   refine wpAny_bind (wpAny_mono (kat_run (Q:=λPo QD=>QD=s'/\∃ p:Array Nat,arrOf Po=p.map (kas_item ((ks.map λa=>Value.ref a.1).toArray.zip (ps.map λa=>Value.ref a.1).toArray))/\failedOf Po=none/\Pm ps.length p/\Up (λi=>rk (ks.map (·.2)) ((ks.map (·.2)).getD i [])) p ps.length) (G:=λp QD=>QD=s'/\Pm ps.length p/\Up (λi=>rk (ks.map (·.2)) ((ks.map (·.2)).getD i [])) p ps.length) hkl (by rw [zA];omega) (by rw [zA];exact h64) (λp Po QD a1 a2 a3 a4=>⟨a4.1,p,a2,a3,a4.2⟩) ?_) ?_ λ_ _ e=>e)
   ·rw [zA];refine gE.wp (c:=cf λi=>rk (ks.map (·.2)) ((ks.map (·.2)).getD i [])) (λi j C hi hj hC=>?_) (λpp hp=>⟨rfl,hp⟩) _ (Pw (f:=λi=>rk (ks.map (·.2)) ((ks.map (·.2)).getD i [])) (by omega));have fm:i < ks.length:=by omega
    have P7:j < ks.length:=by omega
    obtain ⟨⟨o,items,n,ho,hc,hd,hv⟩,hn⟩:=rowAt ks[i] (zx fm);obtain ⟨⟨o',Yl,n',rj,UG,Rg,WN⟩,VY⟩:=rowAt ks[j] (zx P7);unfold kas_ask;have ei:(ks.map λa=>Value.ref a.1).getD i Value.none=.ref ks[i].1:=by simp [fm]
    have ej:(ks.map λa=>Value.ref a.1).getD j Value.none=.ref ks[j].1:=by simp [P7]
    rw [ei,ej];refine kat_lt ho hd rj Rg (mW hv WN (by simp) ?_);have e:cf (λi=>rk (ks.map (·.2)) ((ks.map (·.2)).getD i [])) i j=lx ks[i].2 ks[j].2:=by
     unfold cf;have e1:(ks.map (·.2)).getD i []=ks[i].2:=by simp [fm]
     have e2:(ks.map (·.2)).getD j []=ks[j].2:=by simp [P7]
     simp only [e1,e2];exact rZ (zK.mpr ⟨ks[i],zx fm,rfl⟩)
    rw [e] at hC;exact hC
   ·rintro ⟨⟨⟩,Po⟩ QD ⟨rfl,p,har,V3,pm,up⟩;dsimp only;have pl:p.toList.Perm (List.range ps.length):=by
     have:=pm.toList;simpa using this
    have perm:(p.toList.map λi=>ps.getD i (0,[])).Perm ps:=by
     have:=pl.map λi=>ps.getD i (0,[]);rwa [r6] at this
    refine tail Po (p.toList.map λi=>ps.getD i (0,[])) ?_ V3 perm ?_
    ·rw [kat_snds hkl har,zo];congr 1;refine yH λi hi=>?_;have fm:i < ps.length:=zh.mp (pl.mem_iff.mp hi);simp [fm]
    ·rw [zl];intro i j hi hj Nk;simp only [zA,Array.length_toList] at hi hj;simp only [List.getElem_map,Array.getElem_toList];have hn:p.size=ps.length:=pm.size;have key:=up i j (xY Nk) (by omega);have a1:p[i] < ps.length:=zh.mp (pl.mem_iff.mp (by simp));have a2:p[j] < ps.length:=zh.mp (pl.mem_iff.mp (by simp));unfold g bh.at' at key;simp only [hi,hj,getElem?_pos,Option.getD_some] at key;have e0:∀ k (hk:k < ps.length),(ks.map (·.2)).getD k []=kf ps[k].2:=λk hk=>by rw [ek];simp [hk]
     have e1:=e0 p[i] a1;have e2:=e0 p[j] a2;rw [e1,e2] at key;have e3:ps.getD p[i] (0,[])=ps[p[i]]:=by simp [a1]
     have e4:ps.getD p[j] (0,[])=ps[p[j]]:=by simp [a2]
     rw [e3,e4];have:=rZ (rs:=ks.map (·.2)) (a:=kf ps[p[j]].2) (b:=kf ps[p[i]].2) (by rw [ek];exact zK.mpr ⟨_,zx a2,rfl⟩);rw [<-this];simp only [decide_eq_false_iff_not];omega
end
end L2
namespace L2
open PySem PySem.Spec PyProof.Rows PySem.W bh PySem.Calls
noncomputable def Xp (P:Addr)(OM:Pos)(qual:Str)(ok:List Int->Prop)(kf:List Int->List Int)(te:TE):TE:=fun σ H Q=>te σ H λx H1=>∃ p,∃ ps:List (Addr×List Int),[x]=[V.ref p]/\H1 p=some (.lst (ps.map λa=>V.ref a.1))/\ps.length < 64/\MT P OM qual H1/\(∀ a∈ps,H1 a.1=some (.tup (a.2.map V.int))/\ok a.2) /\
 ∀ l (qs:List (Addr×List Int)) H2,H1 l=none->Sm.cL P H1 H2->MT P OM qual H2->H2 l=some (.lst (qs.map λa:Addr×List Int=>V.ref a.1))->List.Perm qs ps->qs.Pairwise (λa b:Addr×List Int=>lx (kf b.2) (kf a.2)=false)->Q (.ref l) H2
section
variable {X:Cx}{e body:Expr}{te:TE}{np kp OM pos:Pos}{params:Arguments}{scope:Scope}{P c:Addr}{N:List Str}{ok:List Int->Prop}{kf:List Int->List Int}{pn:Str}
theorem OC (hg:Gl X "sorted")(hm:X.mg "sorted" = none)(P8:X.env.code=.ref c)(Nl:codeHdIn X.K c P=true)(bm:bq X.mg X.base)(YC:defaultsOf params X.env=([],[]))(Zm:closureFor scope X.env=pure [])(hr:cN 3 X.A)
  (S:aF N [pn] scope) (TU:∀ pm c' uO u,bindArgs (kla_fn "<lambda>" (X.env.qual ++ "<lambda>") params body scope [] pm (.ref c') uO) ⟨[u],[]⟩=pure (List.zip [pn] [u])) (kne:∀ r,ok r->kf r≠[])
  (jL:∀ f c' A s H,∃ t,PE (gA cB X.prog X.w X.K X.mg X.base N (X.env.qual ++ "<lambda>") scope f (.ref c') A X.stack s H E0).S3 body t/\∀ a r,H a=some (.tup (r.map V.int))->ok r->t (start N [.ref a]) H (λv Y6=>∃ t,v=.ref t/\aG H Y6/\Y6 t=some (.tup ((kf r).map V.int))))
  (he:PE X e te) (ns:notStar e=true) :
  PE X (.Call (.Name "sorted" np) [e] [⟨some "key", .Lambda params body scope OM,kp⟩] pos) (Xp P OM (X.env.qual ++ "<lambda>") ok kf te):=by
 intro af s σ H Q I h;have ha:PA X [e] (gO te ku):=xu (xv he wH ns);have line:100<=sizeLine:=by rw [sizeLine_eq];decide
 refine wpAny_Call_Name_kw (fY I hg hm PyProof.Rows.boot_sorted ?_ (by decide) (by decide));refine callWith_kw (bG (ha pos af s σ H (λvs H1=>∃ p,∃ ps:List (Addr×List Int),vs=[V.ref p]/\H1 p=some (.lst (ps.map λa=>V.ref a.1))/\ps.length < 64/\MT P OM (X.env.qual ++ "<lambda>") H1/\(∀ a∈ps,H1 a.1=some (.tup (a.2.map V.int))/\ok a.2) /\
  ∀ l (qs:List (Addr×List Int)) H2,H1 l=none->Sm.cL P H1 H2->MT P OM (X.env.qual ++ "<lambda>") H2->H2 l=some (.lst (qs.map λa:Addr×List Int=>V.ref a.1))->List.Perm qs ps->qs.Pairwise (λa b:Addr×List Int=>lx (kf b.2) (kf a.2)=false)->Q (.ref l) H2) I h)
  λus s1 ⟨vs,H1,I1,r1,q1⟩=>kws_cons ?_) (by rw [kF ns];rfl) (by rw [kF ns];rfl)
 obtain ⟨p,ps,rfl,hp,h64,mt,rows,q⟩:=q1;obtain ⟨u,rfl,ru⟩:=vals1 r1;cases ru;refine Tp I1 mt P8 Nl bm YC Zm λf c' uO pm H' s' J UG bt mt'=>kws_nil ?_;have neP:∀ b u,H1 b=some u->(∀ ys,u≠.lG ys)->b≠P:=λb u e n z=>by
  rcases mt with m | ⟨_,m,_⟩ <;> (rw [z,m] at e;cases e;exact n _ rfl)
 have Zj:=bt _ _ (neP _ _ hp (by intro ys z;cases z)) hp;have WC:∀ a∈ps,H' a.1=some (.tup (a.2.map V.int)):=λa ha=>bt _ _ (neP _ _ (rows a ha).1 (by intro ys z;cases z)) (rows a ha).1;obtain ⟨z,aH,n,r,hl,hpe⟩:=J.ur Zj;have ei:=iu r;subst ei;refine call_function_entry_kw kind_sorted plain_sorted entry_sorted (ksk_s1 _ _) ?_;unfold Builtin.«sorted»;refine wpAny_bind (m:=checkCount "sorted" 1 1 _) (wpAny_pure ?_);refine wpAny_bind (collect_list (vs:=(ps.map λa=>Value.ref a.1)) ⟨_,hpe,rfl,_,rfl⟩ ?_ (by rw [zA];omega));refine wpAny_bind (wpAny_newList ?_ (by rw [zA];omega));have hsz:((s'.heap.push (seqObj "list" #[] 0)).update s'.heap.objs.size (Obj.mapSeq (·++(ps.map λa=>Value.ref a.1).toArray))).objs.size=s'.heap.objs.size + 1:=by
  rw [Heap.size_update,size_push']
 have hoL:(((s'.heap.push (seqObj "list" #[] 0)).update s'.heap.objs.size (Obj.mapSeq (·++(ps.map λa=>Value.ref a.1).toArray))).push (seqObj "list" (ps.map λa=>Value.ref a.1).toArray 0)).get? (s'.heap.objs.size + 1)=some (seqObj "list" (ps.map λa=>Value.ref a.1).toArray 0):=by
  rw [<-hsz];exact Heap.get?_push_size _ rfl
 have keep:∀ b o,s'.heap.get? b=some o->(((s'.heap.push (seqObj "list" #[] 0)).update s'.heap.objs.size (Obj.mapSeq (·++(ps.map λa=>Value.ref a.1).toArray))).push (seqObj "list" (ps.map λa=>Value.ref a.1).toArray 0)).get? b=some o:=λb o q=>by
  have c8:b < s'.heap.objs.size:=Heap.lt_size q;rw [Heap.get?_push_ne _ _ _ (by rw [hsz];exact zY (yn c8)),Heap.get?_update_ne _ _ _ _ (zY c8),Heap.get?_push_ne _ _ _ (zY c8)];exact q
 show wpAny _ _ _ _ _ { s' with heap:=((s'.heap.push (seqObj "list" #[] 0)).update s'.heap.objs.size (Obj.mapSeq (·++(ps.map λa=>Value.ref a.1).toArray))).push (seqObj "list" (ps.map λa=>Value.ref a.1).toArray 0) };rw [hsz];refine wpAny_bind (wpAny_holding (wpAny_call_entry_kw slot_list_sort ⟨_,hoL,rfl⟩ entry_list_sort ?body (ksk_l1 _ _)));have adh:(f,kla_obj "<lambda>" (X.env.qual ++ "<lambda>") params body scope [] pm c' uO)∈(f,kla_obj "<lambda>" (X.env.qual ++ "<lambda>") params body scope [] pm c' uO)::af:=.head _;show wpAny (model X.prog X.w) X.A.in1.in1 (Builtin.«list.sort» ⟨[.ref (s'.heap.objs.size + 1)],[(Str.ofString "key", .ref f)]⟩) _ _ _;rw [ksk_t1];refine QB (kf:=kf) (ps:=ps) J keep (xP _) (by rw [Heap.size_push,hsz];exact xa _) hoL h64 WC (λa ha=>kne _ (rows a ha).2) (λiR a rr s2 H2 sub ha J2 ext=>?_) λqs H2 s2 J2 hn ext WG so=>?_
 ·have hf:=J2.pin _ (zQ _ (sub _ adh));have hcr:s2.heap.CodeRec (.ref c') (X.env.qual ++ "<lambda>"):=(J2.bF c' _ (ext _ _ UG)).1;obtain ⟨t,ht,hq⟩:=jL f c' X.A.in1.in1 s2 H2;refine wpAny_call (codeAny_mono (VM (k:=0) S hr.in1.in1 J2.YM.in1.in1 hf.1 hcr (TU pm c' uO (.ref a)) (vs:=[V.ref a]) rfl (.cons rfl .nil) ⟨t,ht,hq a rr (ext _ _ (WC _ ha)) (rows _ ha).2⟩) λr s3 VW=>?_);cases r with
  | error e=>exact VW.elim
  | ok fl=>
   cases fl with
   | ret u=>exact J2.after VW
   | next=>exact False.elim VW
   | brk=>exact False.elim VW
   | cont=>exact False.elim VW
 ·refine ⟨_,rfl,wpAny_pure ⟨_,rfl,?_⟩⟩;have fr:H' (s'.heap.objs.size + 1)=none:=J.bF.fresh (xP _);have ext':∀ b u,H' b=some u->upd H2 (s'.heap.objs.size + 1) (.lst (qs.map λa=>V.ref a.1)) b=some u:=λb u e=>by rw [wF (wC e fr)];exact ext b u e
  refine ⟨.ref (s'.heap.objs.size + 1),_,J2.cV λp hp=>J2.pin p (zQ _ (.tail _ hp)),rfl,q _ qs _ ?_ (λb u n e=>ext' b u (bt b u n e)) ?_ xq WG so⟩
  ·cases e:H1 (s'.heap.objs.size + 1) with
   | none=>rfl
   | some u=>
    by_cases z:s'.heap.objs.size + 1=P
    ·rcases mt' with m | ⟨_,m,_⟩ <;> (rw [<-z,fr] at m;cases m)
    ·rw [bt _ _ z e] at fr;cases fr
  ·rcases mt' with m | ⟨c1,m,m2⟩
   ·exact .inl (ext' _ _ m)
   ·exact .inr ⟨c1,ext' _ _ m,ext' _ _ m2⟩
theorem bA.okC {P:Program}{w:World}{K:PySem.W.Frag}{mg:Str->Option Value}{base:Heap}{x qual:Str}{st:Stmt}{f c:Addr}{fd:FuncData}{N ps:List Str}{k:Nat}{sp:Sp}(F:bA K x qual st f fd)(hc:fd.code=.ref c)(S:aF N ps (aB st))(len:∀ vs H Q E,sp vs H Q E->vs.length=ps.length)
  (jL:∀ (A:Around) (outer:List Env) (s:Shared) (H:Hp) (vs:List V) (Q:VK) (E:XK),cN k (A.deeper (envOfC qual (aB st) s.heap.objs.size f (.ref c)))->sp vs H Q E ->
   ∃ t,tE (gA cB P w K mg base N qual (aB st) f (.ref c) A outer s H E).S3 (aq st) t/\t { nx:=λ_ H'=>Q .bL H',rt:=Q } (start N vs) H):aZ P w K mg base cB (k + 1) f fd ps sp:=by
 obtain ⟨oc,od,kV,doc,pm,an,bW,ct,VD,rfl,lk,Nl⟩:=F.ex;have hc:bW=.ref c:=hc;subst hc;refine WW lk Nl S len λA outer s H vs Q E hr OQ=>?_;obtain ⟨t,h,q⟩:=jL A outer s H vs Q E hr OQ;exact ⟨t,h.S3,q⟩
end
end L2
namespace L2
open PySem PySem.Spec PyProof.Rows PySem.W
theorem S6 {K:PySem.W.Frag}{h:Heap}{P:Addr}(X:K.In h)(hP:h.get? P=some (tabObj #[]))(nt:noTabs K=true):K.lookup P=none:=by
 cases e:K.lookup P with
 | none=>rfl
 | some o=>
  have h1:=X P o e;rw [hP] at h1;cases h1;have h2:=yM.mp nt (P,_) (mem_of_lookupK e);exact absurd (show false=true from h2) zP
theorem Q4 {P:Program}{w:World}{K:PySem.W.Frag}{mg mb:Str->Option Value}{CX:Uw}{k:Nat}{fa a c T:Addr}{fd:FuncData}{x:Str}{sp:Sp}{bH:Shared}{vs:List Value}{ns:List Int}
  (KX:K.In bH.heap) (hns:bH.heap.Ns mainGlobals mg) (hb:bH.heap.Ns builtinsNs mb) (hbb:∀ x:Str,x ≠ "__name__" -> mb x=bootBuiltins x) (adj:bH.heap.NoLimit) (hg:bH.gens=#[])
  (hT:bH.heap.get? T=some (tabObj #[])) (hC:codeHdIn K c T=true) (nt:noTabs K=true) (hbm:∃ bm ob,mg "__builtins__" = some (.ref bm)/\bm≠builtinsNs/\bH.heap.get? bm=some ob/\ob.cls=.type "module" /\ ob.dict=some builtinsNs/\ob.data=.plain)
  (ha:bH.heap.get? a=some { cls:=.type "list", data:=.seq vs.toArray }) (hi:IntsAre vs ns) (hl:ns.length<=sizeLine) (hr:cN k callerA)
  (F:∀ base:Heap,K.In base->base.Ns mainGlobals mg->bq mg base->aZ P w K mg base CX k fa fd [x] sp) (TU:∀ (s:Shared) (u:Value),BindsTo s fd ⟨[u],[]⟩ [(x,u)])
  (OQ:∀ H:Hp,H T=some (.lG #[])->aU K H a (ns.map V.int)->sp [.ref a] H (λv _=>v=.bl true) λ_ _ _=>False)
  (hCX:∀ H e s',CX [] H bH (λ_ _ _=>False) e s'->False) :
  codeAny (model P w) callerA (.call (.ref fa) ⟨[.ref a],[]⟩) (λr s'=>r=.ok (.ret (.bool true))/\OldK bH.heap s'.heap/\s'.os=bH.os/\AllBare s'.gens) bH:=by
 have rv:=rO hi;have acS:=hi.length;have naT:a≠T:=λz=>by rw [z,hT] at ha;cases ha
 have lkT:=S6 KX hT nt;have isT:=((codeHd_of_K KX hC).tab hT).isCodeTable;have core:∀ H:Hp,(∀ b,H b=none\/(b=a/\∃ o xs,H b=some (.uF o (.lst xs)))\/(b=T/\H b=some (.lG #[])))->H T=some (.lG #[])->aU K H a (ns.map V.int)->ic P w H bH.heap->(H a≠none->K.lookup a=none) ->
   codeAny (model P w) callerA (.call (.ref fa) ⟨[.ref a],[]⟩) (λr s'=>r=.ok (.ret (.bool true))/\OldK bH.heap s'.heap/\s'.os=bH.os/\AllBare s'.gens) bH:=by
  intro H hO hTH hS bF hK;have uU:∀ {b:Addr}{o:Obj},bH.heap.get? b=some o->H b=none->(rq bH.heap H).get? b=some o:=λe n=>TR e n;have noH:∀ {b:Addr}{o:Obj},bH.heap.get? b=some o->(∀ i n,o.data≠.seq i n)->(∀ f,o.data≠.fields f)->H b=none:=λ{b o} e d1 d2=>by
   rcases hO b with q | ⟨rfl,_⟩ | ⟨rfl,_⟩
   ·exact q
   ·rw [ha] at e;cases e;exact absurd rfl (d1 _ _)
   ·rw [hT] at e;cases e;exact absurd rfl (d2 _)
  have nsK:∀ {b:Addr}{m:Str->Option Value},bH.heap.Ns b m->(rq bH.heap H).Ns b m:=λ{b m} ⟨o,es,ep,e,d,r⟩=>⟨o,es,ep,uU e (noH e (λi n z=>by rw [d] at z;cases z) λf z=>by rw [d] at z;cases z),d,r⟩;have hKb:K.In (rq bH.heap H):=λb o e=>uU (KX b o e) (by
   rcases hO b with q | ⟨rfl,_,_,q⟩ | ⟨rfl,q⟩
   ·exact q
   ·rw [hK (by rw [q];simp)] at e;cases e
   ·rw [lkT] at e;cases e)
  have hM:Mod K mg (rq bH.heap H):=⟨hKb,nsK hns,⟨mb,nsK hb,hbb⟩,let ⟨mc,h1,h2⟩:=adj;⟨mc,nsK h1,h2⟩⟩;have hB:bq mg (rq bH.heap H):=by
   obtain ⟨bm,ob,b1,b2,b3,b4,b5,b6⟩:=hbm;refine ⟨bm,ob,b1,b2,λz=>?_,uU b3 (noH b3 (λi n z=>by rw [b6] at z;cases z) λf z=>by rw [b6] at z;cases z),b4,b5,b6⟩;obtain ⟨o,es,ep,e,d,_⟩:=hns;rw [z,e] at b3;cases b3;rw [b6] at d;cases d
  have e0:pQ P w K mg (rq bH.heap H) callerA [] bH H:=⟨rfl,hM,λb o e=>VF e,Nat.le_of_eq (Rf _ _),trivial,λb hb=>absurd (show b∈([]:List Addr) from hb) (by simp),bF,.of_eq hg⟩;refine codeAny_mono ((F _ hKb (nsK hns) hB).run callerA [] bH H ⟨[.ref a],[]⟩ [.ref a] [.ref a] _ _ hr e0 (TU bH (.ref a)) (.cons rfl .nil) (OQ H hTH hS)) λr s' h=>?_;cases r with
  | error e=>exact (hCX H e s' h).elim
  | ok fl=>
   cases fl with
   | next=>exact False.elim h
   | brk=>exact False.elim h
   | cont=>exact False.elim h
   | ret u=>
    obtain ⟨v,H',os,bare,un,aau,r',q⟩:=h;have q':v=.bl true:=q;subst q';obtain rfl:u=Value.bool true:=r';have all:∀ b o,bH.heap.get? b=some o->s'.heap.get? b=some o\/(b=T/\∃ ps,s'.heap.get? T=some (tabObj ps)):=λb o e=>by
     rcases hO b with q | ⟨_,ob,xs,z⟩ | ⟨rfl,z⟩
     ·exact .inl (un.keep b o e q (by intro z;exact absurd (show b∈([]:List Addr) from z) (by simp)) (by simp))
     ·have z2:=un.oR b ob _ z;obtain ⟨e1,_⟩:=bF b _ z;obtain ⟨e2,_⟩:=aau b _ z2;rw [e] at e1;cases e1;exact .inl e2
     ·obtain ⟨more,z2⟩:=un.nu b _ z;have e2:s'.heap.get? b=some _:=aau b _ z2;exact .inr ⟨rfl,_,e2⟩
    refine ⟨rfl,⟨λb o e=>?_,λb o e=>?_⟩,os,bare⟩
    ·rcases all b o e with q | ⟨rfl,ps,q⟩
     ·exact .inl q
     ·rw [hT] at e;cases e;exact .inr (.inl ⟨isT,rfl,#[],ps,rfl,by rw [Array.empty_append];exact q⟩)
    ·rcases all b o e with q | ⟨rfl,ps,q⟩
     ·exact ⟨_,q⟩
     ·exact ⟨_,q⟩
 cases hk:K.lookup a with
 | some o=>
  have e:=KX a o hk;rw [ha] at e;cases e;refine core (λb=>if b=T then some (.lG #[]) else none) (λb=>?_) (if_pos rfl) (.inr ⟨_,vs.toArray,_,hk,rfl,rfl,rfl,by rw [zR,acS];exact hl,by simpa using rv⟩) (λb u z=>?_) λz=>absurd (if_neg naT) z
  ·by_cases hb:b=T
   ·exact .inr (.inr ⟨hb,if_pos hb⟩)
   ·exact .inl (if_neg hb)
  ·by_cases hb:b=T
   ·have z':=(if_pos hb).symm.trans z;cases z';subst hb;exact hT
   ·have z':=(if_neg hb).symm.trans z;cases z'
 | none=>
  have at1:(λb=>if b=T then some (HO.lG #[]) else if b=a then some (.uF { cls:=.type "list", data:=.seq vs.toArray } (.lst (ns.map V.int))) else none) a=some (.uF { cls:=.type "list", data:=.seq vs.toArray } (.lst (ns.map V.int))):=(if_neg naT).trans (if_pos rfl);refine core (λb=>if b=T then some (.lG #[]) else if b=a then some (.uF { cls:=.type "list", data:=.seq vs.toArray } (.lst (ns.map V.int))) else none) (λb=>?_) (if_pos rfl) (.inl (.inr ⟨{ cls:=.type "list", data:=.seq vs.toArray },at1⟩)) (λb u z=>?_) λ_=>hk
  ·by_cases hb:b=T
   ·exact .inr (.inr ⟨hb,if_pos hb⟩)
   ·by_cases dZ:b=a
    ·exact .inr (.inl ⟨dZ,_,_,(if_neg hb).trans (if_pos dZ)⟩)
    ·exact .inl ((if_neg hb).trans (if_neg dZ))
  ·by_cases hb:b=T
   ·have z':=(if_pos hb).symm.trans z;cases z';subst hb;exact hT
   ·by_cases dZ:b=a
    ·have z':=((if_neg hb).trans (if_pos dZ)).symm.trans z;cases z';subst dZ;exact ⟨ha,by rw [zA];exact hl,vs,_,rv,ha⟩
    ·have z':=((if_neg hb).trans (if_neg dZ)).symm.trans z;cases z'
theorem R1 {l:PySem.W.OpenLaw}{n k:Nat}{q:Program}{loose:List Str}{XP:(Str->Option Value)->Heap->Prop}{YP:World->Heap->Prop}{d:DefRec}{K:Params->PySem.W.Frag}{CX:World->Uw}{sp:World->Sp}{x:Str}{T:Addr}
  (hn:l.most=some n) (hn2:n<=sizeLine) (hdf:d.params.defaults=[]) (hr:cN k callerA)
  (hY:∀ (w:World) (h:Heap),YP w h->(K w.params).In h/\h.get? T=some (tabObj #[])) (nt:∀ w:World,noTabs (K w.params)=true)
  (F:∀ (w:World) (mg:Str->Option Value) (fa:Addr) (h:Heap),(K w.params).In h->h.Ns mainGlobals mg->mg d.name=some (.ref fa) ->
   ∃ fd:FuncData,(∃ c,codeHdIn (K w.params) c T=true)/\(∀ (s:Shared) (u:Value),BindsTo s fd ⟨[u],[]⟩ [(x,u)]) /\
    ∀ base:Heap,(K w.params).In base->base.Ns mainGlobals mg->bq mg base->aZ l.prog w (K w.params) mg base (CX w) k fa fd [x] (sp w))
  (OQ:∀ (w:World) (H:Hp) (a:Addr) (ns:List Int),ns.length<=n->H T=some (.lG #[])->aU (K w.params) H a (ns.map V.int)->sp w [.ref a] H (λv _=>v=.bl true) λ_ _ _=>False)
  (hCX:∀ (w:World) (H:Hp) (s:Shared) (e:Value) (s':Shared),CX w [] H s (λ_ _ _=>False) e s'->False) :
  PySem.W.WalkO q loose XP YP l.row.toRowW d [] (λf vs=>PySem.call f vs):=by
 refine Att.NS hn hdf λw dh bH mg mb fa o pm cd doc a vs ns G Y ho hd Nl hmg Yw hints hlen hg=>?_;obtain ⟨KX,tX⟩:=hY w _ Y;obtain ⟨fd,⟨c,hC⟩,hb,hF⟩:=F w mg fa _ KX G.T.g hmg;exact Q4 KX G.T.g G.T.b G.T.builtins G.T.nolimit hg tX hC (nt w) G.T.bmain Yw hints (yC hlen hn2) hr hF hb (λH hO hS=>OQ w H a ns hlen hO hS) λH e s'=>hCX w H bH e s'
end L2
namespace Sm
open PySem L2 bh
def Xi (ms:List M4)(j:Int):Int:=((ms[j.toNat]?).map (·.t)).getD 0
noncomputable def ad7 (ms:List M4)(k:Nat):List Int:=(numsTo ms k ms.length).map (Xi ms)
section
variable {n k w:Nat}{ms:List M4}{day:Int}
end
noncomputable def nextOf (ts:List (Int×Int))(b:Int)(k:Nat):Int:=match ts[k + 1]? with
 | some q=>q.1
 | none=>b
def kN:Str:=(("made_book" : Str) ++ ".<locals>.") ++ "<lambda>"
noncomputable def t8 (K:PySem.W.Frag)(T:Addr)(lp:Pos):Sp:=λvs H Q _=>∃ (a:Addr) (ns:List Int),vs=[.ref a]/\aU K H a (ns.map V.int)/\ns.length<=63/\MT T lp kN H/\∀ H',Q (.bl true) H'
def M4.norm (r:M4):M4:=⟨min r.lo r.hi,max r.lo r.hi,r.t,r.m⟩
def M4.ints (r:M4):List Int:=[r.lo,r.hi,r.t,r.m]
structure Raw (w:Int) (ms:List M4):Prop where
 gH:ms.length<=60
 each:∀ r∈ms,0<=r.lo/\r.lo < w/\0<=r.hi/\r.hi < w/\r.lo≠r.hi/\1<=r.t/\r.t<=1000000000/\1<=r.m/\r.m<=99
 pw:ms.Pairwise λa b=>a.t=b.t->apart a b
theorem apart.symm {a b:M4}(h:apart a b):apart b a:=⟨h.1.symm,h.2.2.1.symm,h.2.1.symm,h.2.2.2.symm⟩
theorem apart.norm {a b:M4}(h:apart a b):apart a.norm b.norm:=by obtain ⟨h1,h2,h3,h4⟩:=h;unfold apart M4.norm;dsimp only;refine ⟨?_,?_,?_,?_⟩ <;> omega
theorem Raw.loose {w:Int}{ms:List M4}(g:Raw w ms):Loose w (ms.map M4.norm):=by refine ⟨by rw [zA];exact g.gH,λr hr=>?_,yO.mpr (g.pw.imp λh e=>(h e).norm)⟩;obtain ⟨x,hx,rfl⟩:=zK.mp hr;obtain ⟨h1,h2,h3,h4,h5,h6,h7,h8,h9⟩:=g.each x hx;unfold M4.norm;dsimp only;exact ⟨by omega,by omega,by omega,h6,h7,h8,h9⟩
theorem Good.raw {w:Int}{ms:List M4}(g:Good w ms):Raw w ms:=by refine ⟨g.gH,λr hr=>?_,g.loose.pw⟩;obtain ⟨h1,h2,h3,h4,h5,h6,h7⟩:=g.each r hr;exact ⟨h1,by omega,by omega,h3,by omega,h4,h5,h6,h7⟩
theorem Good.norm {w:Int}{ms:List M4}(g:Good w ms):ms.map M4.norm=ms:=by
 conv=>rhs;rw [<-xp ms]
 refine yH λr hr=>?_;obtain ⟨h1,h2,h3,h4,h5,h6,h7⟩:=g.each r hr;have e1:min r.lo r.hi=r.lo:=by omega
 have e2:max r.lo r.hi=r.hi:=by omega
 unfold M4.norm;rw [e1,e2];rfl
theorem Good.eq {w w':Int}{ms ns:List M4}(g:Good w ms)(h:Good w' ns)(p:ms.Perm ns):ms=ns:=by refine List.Perm.eq_of_pairwise (le:=λa b=>a.t < b.t\/(a.t=b.t/\a.lo < b.lo/\apart a b)) (λa b _ _ x y=>?_) g.order h.order p;rcases x with x | x <;> rcases y with y | y <;> omega
def Tq (l:List Int):List Int:=[l.getD 2 0,l.getD 0 0]
theorem VO (l:List Int)(_:l.length=4):Tq l≠[]:=by intro h;cases h
theorem lx2 {a b c d:Int}(h:lx [a,b] [c,d]=false):c < a\/(c=a/\d<=b):=by
 by_cases e:a=c
 ·subst e;by_cases e2:b=d
  ·subst e2;exact .inr ⟨rfl,zb _⟩
  ·simp [lx,e2] at h;exact .inr ⟨rfl,h⟩
 ·simp [lx,e] at h;omega
theorem ON {fs:List (Addr×M4)}{qs:List (Addr×List Int)}(p:qs.Perm (fs.map λa=>(a.1,a.2.ints)))(s:qs.Pairwise λa b=>lx (Tq b.2) (Tq a.2)=false) :
  ∃ rs:List (Addr×M4),rs.Perm fs/\(rs.Pairwise λa b=>a.2.t < b.2.t\/(a.2.t=b.2.t/\a.2.lo<=b.2.lo))/\qs=rs.map λa=>(a.1,a.2.ints):=by
 have back:∀ x∈qs,((x.1,(⟨x.2.getD 0 0,x.2.getD 1 0,x.2.getD 2 0,x.2.getD 3 0⟩:M4).ints):Addr×List Int)=x:=λx hx=>by
  obtain ⟨y,hy,rfl⟩:=zK.mp (p.mem_iff.mp hx);rfl
 have e:qs=(qs.map λx:Addr×List Int=>((x.1,(⟨x.2.getD 0 0,x.2.getD 1 0,x.2.getD 2 0,x.2.getD 3 0⟩:M4)):Addr×M4)).map λa=>(a.1,a.2.ints):=by
  rw [zo]
  conv=>lhs;rw [<-xp qs]
  exact yH λx hx=>(back x hx).symm
 refine ⟨qs.map λx:Addr×List Int=>((x.1,(⟨x.2.getD 0 0,x.2.getD 1 0,x.2.getD 2 0,x.2.getD 3 0⟩:M4)):Addr×M4),?_,?_,e⟩
 ·have:=p.map λx:Addr×List Int=>((x.1,(⟨x.2.getD 0 0,x.2.getD 1 0,x.2.getD 2 0,x.2.getD 3 0⟩:M4)):Addr×M4);rw [zo] at this;refine this.trans ?_;have e2:(fs.map ((λx:Addr×List Int=>((x.1,(⟨x.2.getD 0 0,x.2.getD 1 0,x.2.getD 2 0,x.2.getD 3 0⟩:M4)):Addr×M4)) ∘ λa:Addr×M4=>(a.1,a.2.ints)))=fs:=by
   conv=>rhs;rw [<-xp fs]
   exact yH λ_ _=>rfl
  rw [e2]
 ·refine yO.mpr (s.imp λ{a b} h=>?_);dsimp only;exact lx2 h
theorem Loose.good2 {w:Int}{fs qs:List (Addr×M4)}(g:Loose w (fs.map (·.2)))(p:qs.Perm fs)(s:qs.Pairwise λa b=>a.2.t < b.2.t\/(a.2.t=b.2.t/\a.2.lo<=b.2.lo)):Good w (qs.map (·.2)):=by
 have pm:=p.map (·.2);refine ⟨by rw [pm.length_eq];exact g.gH,λr hr=>g.each r (pm.mem_iff.mp hr),?_⟩;have ap:(qs.map (·.2)).Pairwise λa b=>a.t=b.t->apart a b:=(List.Perm.pairwise_iff (λ{x y} h e=>(h e.symm).symm) pm).mpr g.pw;refine yO.mpr ((s.and (yO.mp ap)).imp ?_);rintro a b ⟨h | ⟨h1,h2⟩,k⟩
 ·exact .inl h
 ·have:=k h1;exact .inr ⟨h1,by have:=this.1;omega,this⟩
noncomputable def Oo:Sp:=λvs H Q _=>∃ p aa,vs=[.ref p]/\H p=some (.lst (List.map V.int aa))/\1<=aa.length/\aa.length<=12/\(∀ r∈aa,(0:Int)<=r/\r<=99)/\∀ H',aG H H'->Q (.bl true) H'
noncomputable def Sl:Sp:=λvs H Q _=>∃ w t,∃ r:M4,vs=[.int w,.ref t]/\H t=some (.tup r.vs)/\(0<=r.lo/\r.lo < w/\0<=r.hi/\r.hi < w/\r.lo≠r.hi/\1<=r.t/\r.t<=1000000000/\1<=r.m/\r.m<=99)/\Q (.bl true) H
noncomputable def U4:Sp:=λvs H Q _=>∃ l fs w,vs=[.ref l]/\pO H l fs/\Raw w (fs.map (·.2))/\∀ H',aG H H'->Q (.bl false) H'
noncomputable def XA:Sp:=λvs H Q _=>∃ t,∃ r:M4,vs=[.ref t]/\H t=some (.tup r.vs)/\∀ t' H',aG H H'->H' t'=some (.tup r.norm.vs)->Q (.ref t') H'
noncomputable def Xz (T:Addr)(lp:Pos):Sp:=λvs H Q _=>∃ pr pm aa fs,vs=[.ref pr,.ref pm]/\H pr=some (.lst (List.map V.int aa))/\1<=aa.length/\aa.length<=12/\(∀ r∈aa,(0:Int)<=r/\r<=99)/\pO H pm fs/\Raw aa.length (fs.map (·.2))/\MT T lp kN H /\
 ∀ b tr tm ps H',cL T H H'->MT T lp kN H'->aO H' b aa tr tm ps->Good aa.length (ps.map (·.2))->(ps.map (·.2)).Perm (fs.map λa=>a.2.norm)->Q (.ref b) H'
end Sm
namespace L2
open PySem
theorem MT.same {P:Addr}{pos:Pos}{qual:Str}{H H':Hp}(m:MT P pos qual H)(s:aG H H'):MT P pos qual H':=by
 rcases m with m | ⟨c,m,m2⟩
 ·exact .inl (s _ _ m)
 ·exact .inr ⟨c,s _ _ m,s _ _ m2⟩
end L2
namespace Sm
open PySem L2 bh
theorem VN {K:PySem.W.Frag}{H:Hp}{a:Addr}{r:List Int}(h:H a=some (.tup (r.map V.int)))(ho:r.length=4) :
  ∃ x,bS K H a x/\∃ y,gb x 2=some y/\∃ x,bS K H a x/\∃ z,gb x 0=some z/\2<=sizeLine/\∀ p:Addr,H p=none->aG H (upd H p (HO.tup [y,z]))/\upd H p (HO.tup [y,z]) p=some (HO.tup (List.map V.int (Tq r))):=
 match r,ho with
 | [_,_,_,_],_=>⟨_,bS.of h,_,rfl,_,bS.of h,_,rfl,by rw [sizeLine_eq];decide,λp hp=>⟨xx hp,xq⟩⟩
end Sm
namespace L2
open PySem
theorem MT.go {P p:Addr}{pos:Pos}{qual:Str}{H H':Hp}(m:MT P pos qual H)(pu:Sm.bZ H p)(g:Sm.Go p H H'):MT P pos qual H':=by
 obtain ⟨x,y,z,e⟩:=pu;rcases m with m | ⟨c,m,m2⟩
 ·exact .inl (g.1 _ _ (cZ m e (by intro z;cases z)) m)
 ·exact .inr ⟨c,g.1 _ _ (cZ m e (by intro z;cases z)) m,g.1 _ _ (cZ m2 e (by intro z;cases z)) m2⟩
end L2
namespace Sm
open PySem L2 bh
theorem Good.sub {w:Int}{ms ns:List M4}(g:Good w ms)(h:ns.Sublist ms):Good w ns:=⟨yC h.length_le g.gH,λr hr=>g.each r (h.subset hr),g.order.sublist h⟩
theorem MT.jj {T:Addr}{lp:Pos}{q:Str}{H H':Hp}(m:MT T lp q H)(b:cL T H H'):bN H H':=λx u e=>b x _ (λz=>by
 rcases m with m | ⟨_,m,_⟩ <;> (rw [z,m] at e;cases e)) e
theorem MT.keep {T:Addr}{lp:Pos}{q:Str}{H H':Hp}(m:MT T lp q H)(b:cL T H H'){x:Addr}{u:HO}(e:H x=some u)(n:∀ ys,u≠.lG ys):H' x=some u:=b x u (λz=>by
 rcases m with m | ⟨_,m,_⟩ <;> (rw [z,m] at e;cases e;exact n _ rfl)) e
theorem MT.seq {T:Addr}{lp:Pos}{q:Str}{K:PySem.W.Frag}{H H':Hp}{a:Addr}{xs:List V}(m:MT T lp q H)(b:cL T H H')(h:aU K H a xs):aU K H' a xs:=by
 rcases h with (h | ⟨o,h⟩) | h
 ·exact .inl (.inl (MT.keep m b h (by intro ys z;cases z)))
 ·exact .inl (.inr ⟨o,MT.keep m b h (by intro ys z;cases z)⟩)
 ·exact .inr h
theorem Rp {fs:List (Addr×M4)}{i:Nat}{r:Addr×M4}{p:Addr×M4->Bool}(h:fs[i]?=some r):(fs.take (i + 1)).filter p=(fs.take i).filter p++(if p r then [r] else []):=by
 rw [we h,List.filter_append];congr 1;by_cases e:p r
 ·rw [if_pos e,List.filter_cons_of_pos e];rfl
 ·rw [if_neg e,List.filter_cons_of_neg e];rfl
end Sm
namespace L2
open PySem PySem.Spec PyProof.Rows
section
variable {K:PySem.W.Frag}{a:Addr}{xs:List V}{n:Nat}{caps:List Nat}{g:TG}{tc:TT}{te:TE}{σ:St}{H:Hp}{Qf:Addr->Hp->List V->Prop}
theorem O3 (Pv:Nat->St->List V->Hp->Prop)(h0:Pv 0 (dW n caps σ) [] H)(hn:xs.length<=1000)(hl:∀ i τ acc H,Pv i τ acc H->acc.length<=i/\aU K H a xs)
  (hs:∀ i x q τ acc H (C:St->List V->Hp->Prop),xs[i]?=some x->H q=none->Pv i τ acc H->(∀ τ acc H,Pv (i + 1) τ acc H->C τ acc H)->g (.ref q) τ (upd H q (.tup [.int i,x])) fun bR H2=>tc bR H2 λb H3=>if b=true then te bR H3 λy H4=>C bR (acc++[y]) H4 else C bR acc H3)
  (hd:∀ τ acc H,Pv xs.length τ acc H->∀ p,H p=none->Qf p H acc) :
  ∃ W:Nat->Nat->St->List V->Hp->Prop,(∃ m,W 0 m (dW n caps σ) [] H)/\∀ i m τ acc H,W i m τ acc H ->
   ((u7 K a).stop i H/\acc.length<=sizeLine/\∀ p,H p=none->Qf p H acc) \/
   ((u7 K a).go i H/\acc.length < sizeLine/\∀ x H',(u7 K a).tG i H x H'->g x τ H' fun bR H2=>tc bR H2 λb H3=>if b=true then te bR H3 λy H4=>∃ m',m' < m/\W (i + 1) m' bR (acc++[y]) H4 else ∃ m',m' < m/\W (i + 1) m' bR acc H3):=
 jS (J:=u7 K a) Pv xs.length h0 hn (λi τ acc H p=>(hl i τ acc H p).1) (λi τ acc H hi p=>⟨xs,xs[i],(hl i τ acc H p).2,by simp [hi]⟩) (fun τ acc H p=>⟨xs,(hl _ τ acc H p).2,zD _⟩)
  (λi τ acc H C hi p c x H' y=>by obtain ⟨q,x',hq,e1,e2,y⟩:=y;subst e1;subst e2;exact hs i x' q τ acc _ C (y xs (hl i τ acc _ p).2) hq p c) hd
end
end L2
namespace Sm
open PySem L2 bh
abbrev Mk:=Nat->Nat
noncomputable def Qw (T:Addr)(lp:Pos):Sp:=λvs H Q _=>∃ b,∃ n:Nat,∃ aa tr tm ps,vs=[.ref b,.int (n:Int)]/\aO H b aa tr tm ps/\n < ps.length/\1<=aa.length/\aa.length<=12/\(∀ r∈aa,(0:Int)<=r/\r<=99)/\Good aa.length (ps.map (·.2))/\MT T lp kN H /\
 ∀ b' iY eO PM H',cL T H H'->MT T lp kN H'->aO H' b' aa iY eO PM->PM.map (·.2)=(ps.map (·.2)).eraseIdx n->Q (.ref b') H'
noncomputable def U8:Sp:=λvs H Q _=>∃ b,∃ n:Nat,∃ aa tr tm ps,vs=[.ref b,.int (n:Int)]/\aO H b aa tr tm ps/\n < ps.length/\Q .bL H
structure L4 where
 s:Nat
 w:Nat
 a:Int
 z:Int
def Pa (H:Hp)(n:Nat)(x:Addr×L4):Prop:=cQ H x.1 n x.2.s x.2.w x.2.a x.2.z
theorem Pa.br {H H':Hp}{n:Nat}{x:Addr×L4}(h:Pa H n x)(t:bN H H'):Pa H' n x:=⟨t _ _ h.1,h.2⟩
def bT (ms:List M4)(x:L4):Bool:=aY (fwd ms (aE x.s x.a) x.w) x.z
def gR (ms:List M4)(n:Nat)(x:L4):Bool:=bT ms x && !bT (ms.eraseIdx n) x
theorem Rr {α β:Type}(f:α->β)(l:List α)(n:Nat):(l.eraseIdx n).map f=(l.map f).eraseIdx n:=by rw [List.eraseIdx_eq_take_drop_succ,List.eraseIdx_eq_take_drop_succ,zE,List.map_take,List.map_drop]
theorem mC {α:Type}{l:List α}{i n:Nat}{r:α}(h:l[i]?=some r)(e:i≠n):(l.take (i + 1)).eraseIdx n=(l.take i).eraseIdx n++[r]:=by
 have hi:i < l.length:=(zC.mp h).1;rw [we h,List.eraseIdx_append];split
 ·rfl
 ·rename_i hn;rw [zV] at hn;have:n - (l.take i).length≠0:=by rw [zV];omega
  rw [yI (by show 1<=_;omega),yI (by rw [zV];omega)]
theorem rB {α:Type}{l:List α}{i:Nat}{r:α}(h:l[i]?=some r):(l.take (i + 1)).eraseIdx i=(l.take i).eraseIdx i:=by have hi:i < l.length:=(zC.mp h).1;rw [we h,List.eraseIdx_append_of_length_le (by rw [zV];omega)];rw [zV,show i - min i l.length=0 by omega,yI (l:=l.take i) (by rw [zV];omega)];simp
end Sm
namespace L2
open PySem PySem.Spec PyProof.Rows
theorem XW {X:Cx}(hu:X.A.units + 64 < cLine):gI X (compareOp .In) (λx y H Q=>∃ a o,y=.ref a/\iK H a x o/\Q (.bl o.isSome) H):=by intro af s σ H x y v u Q I rx ry h;obtain ⟨a,o,rfl,g,q⟩:=h;cases ry;exact adO (by omega) I g rx λs' I'=>⟨.bl _,H,I',rfl,q⟩
theorem su {X:Cx}(hu:X.A.units + 64 < cLine):gI X (compareOp .NotIn) (λx y H Q=>∃ a o,y=.ref a/\iK H a x o/\Q (.bl (!o.isSome)) H):=by intro af s σ H x y v u Q I rx ry h;obtain ⟨a,o,rfl,g,q⟩:=h;cases ry;exact Wi (by omega) I g rx λs' I'=>⟨.bl _,H,I',rfl,q⟩
end L2
namespace Sm
open PySem L2 bh
noncomputable def kvV (kv:List (Int×Int)):List (Key×V):=kv.map λp=>(Sum.inl p.1,V.int p.2)
theorem fu {kv:List (Int×Int)}{w:Int}:(cO (kvV kv) (Sum.inl w)).isSome=kv.any λp=>decide (p.1=w):=by
 unfold cO kvV;rw [xB,Option.isSome_map,List.find?_isSome,List.any_eq_true];constructor
 ·rintro ⟨p,hp,e⟩;obtain ⟨q,hq,rfl⟩:=zK.mp hp;have e1:=of_decide_eq_true e;exact ⟨q,hq,decide_eq_true (Sum.inl.inj e1)⟩
 ·rintro ⟨q,hq,e⟩;exact ⟨_,zK.mpr ⟨q,hq,rfl⟩,decide_eq_true (congrArg Sum.inl (of_decide_eq_true e))⟩
theorem aG.but {H H':Hp}{x:Addr}(s:aG H H'):cL x H H':=λb u _ e=>s b u e
end Sm
namespace L2
open PySem PySem.Spec PyProof.Rows
section
variable {X:Cx}
noncomputable def YZ (f:V->Bool)(v:Value):Bool:=match aa9 v with | some x=>f x | none=>false
theorem uZ {f:V->Bool}{x:V}{v:Value}(r:RelV x v):YZ f v=f x:=by unfold YZ;rw [r.abs]
theorem vn:∀ {xs:List V}{us:List Value},Vals xs us->∀ u∈us,∃ x∈xs,RelV x u
 | _,_,.nil,u,h=>by cases h
 | _,_,.cons r rr,u,h=>by
  cases h with
  | head=>exact ⟨_,.head _,r⟩
  | tail _ h=>obtain ⟨x,hx,rx⟩:=vn rr u h;exact ⟨x,.tail _ hx,rx⟩
end
end L2
namespace Sm
open PySem L2 bh
section
variable {C:Addr}{H H':Hp}{t:Tr}{aa:List Int}{tr tm:Addr}{ps:List (Addr×M4)} {n0:Nat}
end
theorem cL.free {x c:Addr}{H H':Hp}(b:cL x H H')(n:c≠x)(h:H' c=none):H c=none:=by
 cases z:H c with
 | none=>rfl
 | some u=>have:=b _ _ n z;rw [h] at this;cases this
theorem sy:∀ {xs ys:List Int},xs.Nodup->(∀ x∈xs,x∈ys)->xs.length<=ys.length
 | [],_,_,_=>za _
 | x::xs,ys,nd,h=>by
  have nd':=zw.mp nd;have hm:=h x (.head _);have:=sy (xs:=xs) (ys:=ys.erase x) nd'.2 λz hz=>(List.mem_erase_of_ne (λe=>nd'.1 (by rw [<-e];exact hz))).mpr (h z (.tail _ hz));rw [List.length_erase_of_mem hm] at this;have:0 < ys.length:=List.length_pos_of_mem hm;show xs.length + 1<=_;omega
theorem map_some {α β:Type}{f:α->β}{o o':Option α}{a:α}(e:o.map f=o'.map f)(h:o'=some a):∃ b,o=some b/\f b=f a:=by
 subst h;cases o with
 | none=>cases e
 | some b=>exact ⟨b,rfl,Option.some.inj e⟩
theorem fP {n:Nat}{ms:List M4}(g:Good n ms){s w:Nat}{a e:Int}{cs:List Int}(wk:aR ms s a (-1) cs=some (w,e)):aY (fwd ms (aE s a) w) e=true:=by have er:=fN (s:=s) (x:=a) g;exact rN g (jR g) _ s a (-1) (aL.mpr ⟨a,er.self,zb _⟩) _ _ wk
open Classical in
noncomputable def cut (M:Addr->Prop) (H:Hp):Hp:=λc=>if M c then none else H c
end Sm
namespace L2
open PySem PySem.Spec PyProof.Rows
section
variable {X:Cx}{pos:Pos}
noncomputable def aaT (K:PySem.W.Frag)(n:Nat)(t:UL):TG:=λv σ H Q=>∃ a xs,v=.ref a/\aU K H a xs/\xs.length=n/\t xs σ H Q
theorem Vx {es:List Expr}{k:Nat}{t:UL}{n:Nat}(hc:X.calm=true)(h:Zv X es t)
  (hn:(assignEach es X.env).length=n:=by rfl) (VU:(assignEach es X.env).findIdx? (·.1)=none:=by rfl):PG X (.Tuple es k pos) (aaT X.K n t):=by
 intro af s σ H v u Q I r hw;obtain ⟨a,xs,e1,hq,hl,hw⟩:=hw;subst e1;cases r;obtain ⟨aH,rv,⟨o,m,ho,Zm,hd,hs⟩,hz⟩:=I.list hq;have hl':s.heap.IsList a aH.toArray:=⟨o,ho,Zm,m,hs⟩;rw [assign_Tuple];refine wpAny_bind (wpAny_standAt ?_);unfold unpack;rw [VU,show (assignEach es X.env).length=aH.toArray.size by simp [hn,<- hl,rv.length]];refine wpAny_bind (wpAny_holding (PySem.W.kun_itemsOf (I.ok.hd hc) hl' λh' hx=>?_));have I1:Inv X af σ H { s with heap:=h' }:=I.kept (t':=s.toks) λb o e=>hx b o (zY (Heap.lt_size e)) e;exact h af _ σ H xs _ Q I1 (by simpa using rv) hw
end
end L2
namespace Sm
open PySem L2 bh
section
variable {C:Addr} {H0 H:Hp}{t u:Tr}{aa:List Int}{tr tm:Addr}{ps:List (Addr×M4)} {n0 n1:Nat}
end
end Sm
namespace L2
open PySem PySem.Spec PyProof.Rows
section
variable {X:Cx}
end
end L2
namespace Sm
open PySem L2 bh
section
variable {CA CH CN:Addr}{H:Hp}{r:Addr}{n:Nat}{σ:St}{i:Nat}{Q:VK} {E1 E2 E3:XK}
end
section
variable {aa:List Int}{ms:List M4}{d:Xb}{m j:Nat}{M:M4}{L:L4}{s:RS}{t:Tr}{ts:List (Addr×List (Option Int))}{ys:List (Addr×Dd)}{x:Addr×List (Option Int)}{g:Int}
end
def Pu:Sp:=λ_ _ _ _=>False
def flip (a:Nat):Nat:=if a % 2=0 then a + 1 else a - 1
theorem XT (n:Nat):n ||| 1=if n % 2=0 then n + 1 else n:=by
 have e:∀ k:Nat,2 * k ||| 1=2 * k + 1:=λk=>by
  have:=Nat.two_pow_add_eq_or_of_lt (i:=1) (b:=1) (by decide) k;simpa using this.symm
 split
 ·rename_i h;have:n=2 * (n / 2):=by omega
  rw [this,e]
 ·rename_i h;have:n=2 * (n / 2) + 1:=by omega
  rw [this,<- e,Nat.or_assoc,Nat.or_self]
theorem tH (n:Nat):Builtin.bitXor (n:Int) 1=((flip n:Nat):Int):=by
 have a1:Builtin.bitAnd (n:Int) 1=((n % 2:Nat):Int):=by
  unfold Builtin.bitAnd;rw [decide_eq_true (by omega:(0:Int)<=(n:Int))];show ((n &&& 1:Nat):Int)=_;rw [Nat.and_one_is_mod]
 have a2:Builtin.bitOr (n:Int) 1=((n ||| 1:Nat):Int):=by
  unfold Builtin.bitOr Builtin.bitAnd Builtin.bitNot;rw [decide_eq_false (by omega:¬ (0:Int)<=-(n:Int) - 1)];show -(-((((-(-(n:Int) - 1) - 1).toNat ||| (-(-(1:Int) - 1) - 1).toNat:Nat):Int)) - 1) - 1=_;rw [show (-(-(n:Int) - 1) - 1).toNat=n by omega,show (-(-(1:Int) - 1) - 1).toNat=1 by omega];omega
 unfold Builtin.bitXor;rw [a1,a2,XT];unfold flip;split <;> omega
theorem flip_flip (a:Nat):flip (flip a)=a:=by unfold flip;split <;> split <;> omega
theorem We (a:Nat):flip a≠a:=by unfold flip;split <;> omega
theorem mP {a m:Nat}(h:a < 2 * m):flip a < 2 * m:=by unfold flip;split <;> omega
end Sm
namespace L2
open PySem PySem.Spec PyProof.Rows
section
variable {prog:Program}{w:World}{A:Around}{E:Value->Shared->Prop}{s:Shared}
theorem Ri {Q:Int->Shared->Prop}(h:Q 4238894112 { s with toks:=s.toks + 1 }):wpAny (model prog w) A (pyHash .none) Q E s:=by
 unfold pyHash;have hv:[Value.none].any Value.onHeap=false:=rfl;refine wpAny_bind ?_;rw [cRoomFor,if_neg (by rw [hv];exact zP)];refine wpAny_pure ?_;refine wpAny_bind (wpAny_specialOf (typeIs_none s) F.slot_NoneType_hash.lookup ?_);show wpAny _ _ (if (some (Value.builtin "NoneType.__hash__") == some Value.none)=true then _ else _) Q E s;rw [if_neg (by rw [beq_builtin_none];exact zP)];refine wpAny_bind (wpAny_specialOf (typeIs_none s) F.slot_NoneType_hash.lookup ?_);show wpAny _ _ (callSpecialIfBoundUnlessNone? .none "__hash__" _ >>= _) Q E s;refine wpAny_bind (wpAny_callSpecialIfBoundUnlessNone?_slot (typeIs_none s) F.slot_NoneType_hash
  (wpAny_call_entry F.slot_NoneType_hash (typeIs_none s) F.entry_NoneType_hash
   (show wpAny _ _ (do ret (<- mkInt 4238894112)) _ _ s from wpAny_ret_mkInt ?_) (F.args_NoneType_hash_1 _)))
 show wpAny _ _ (if (decide (-(2:Int) ^ 63<=4238894112) && decide ((4238894112:Int) < 2 ^ 63))=true then _ else _) Q E _;rw [if_pos (by decide)];exact wpAny_pure h
end
noncomputable def isO:Option Key->Value->Bool
 | none,.none=>true
 | none,_=>false
 | some k,v=>oq k v
theorem qw {v:Value}(h:isO none v=true):v=.none:=by cases v <;> first | rfl | cases h
noncomputable def optKind (prog:Program)(w:World):PySem.KeyKind prog w (Option Key) where
 is:=isO
 hash:=fun | none=>4238894112 | some k=>aaj w k
 inj:=λv a b ha hb=>by
  cases a with
  | none=>
   cases qw ha;cases b with
   | none=>rfl
   | some k=>rcases wd hb with ⟨_,_,_,e⟩ | ⟨_,_,_,e⟩ <;> cases e
  | some k=>
   cases b with
   | none=>
    cases qw hb;rcases wd ha with ⟨_,_,_,e⟩ | ⟨_,_,_,e⟩ <;> cases e
   | some k'=>exact congrArg some ((aW prog w).inj v k k' ha hb)
 byValue:=λk v h=>by
  cases k with
  | none=>cases qw h;rfl
  | some k=>exact (aW prog w).byValue k v h
 pyHash:=λ{A E s k v Q} hv h=>by
  cases k with
  | none=>cases qw hv;exact Ri h
  | some k=>exact (aW prog w).pyHash hv h
 eqBool:=λ{A E s a b u v Q} hu hv h=>by
  cases a with
  | none=>
   cases qw hu;cases b with
   | none=>cases qw hv;exact SeqAt.EqAt.same _ _ _ _ _ h
   | some k=>
    have h':Q false s:=by simpa using h
    rcases wd hv with ⟨i,t,_,rfl⟩ | ⟨x,t,_,rfl⟩
    ·exact SeqAt.EqAt.none_int i t _ _ _ _ h'
    ·exact SeqAt.EqAt.none_str x t _ _ _ _ h'
  | some k=>
   cases b with
   | none=>
    cases qw hv;have h':Q false s:=by simpa using h
    rcases wd hu with ⟨i,t,_,rfl⟩ | ⟨x,t,_,rfl⟩
    ·exact SeqAt.EqAt.int_none i t _ _ _ _ h'
    ·exact SeqAt.EqAt.str_none x t _ _ _ _ h'
   | some k'=>
    have e:decide (some k=some k')=decide (k=k'):=by simp
    rw [e] at h;exact (aW prog w).eqBool hu hv h
 «strs»:=λk x t v h=>by
  cases k with
  | none=>cases qw h
  | some k=>exact (aW prog w).strs k x t v h
theorem YR {P:Program}{w:World}{h:Heap}{a:Addr}{vs:List (Key×Value)}(d:h.DictOf (aW P w) a vs):h.MapOf (optKind P w) a (fun | none=>none | some k=>valueAt vs k):=by
 obtain ⟨o,es,ep,ho,hc,hd,hk,hf⟩:=d.mapOf;refine ⟨o,es,ep,ho,hc,hd,λe he=>?_,λk=>?_⟩
 ·obtain ⟨k,h1,h2⟩:=hk e he;exact ⟨some k,h1,h2⟩
 ·cases k with
  | none=>
   show (es.find? λe=>isO none e.key).map (·.val)=none;have:(es.find? λe=>isO none e.key)=none:=by
    rw [Array.find?_eq_none];intro e he z;obtain ⟨k,h1,_⟩:=hk e he;have e1:=qw (by simpa using z);rw [e1] at h1;rcases wd h1 with ⟨_,_,_,q⟩ | ⟨_,_,_,q⟩ <;> cases q
   rw [this];rfl
  | some k=>exact hf k
section
variable {X:Cx}
theorem QI:gI X (compareOp .NotIn) (λx y H Q=>∃ a aN,x=.bL/\y=.ref a/\H a=some (.dK aN)/\Q (.bl true) H):=by intro af s σ H x y v u Q I rx ry h;obtain ⟨a,aN,rfl,rfl,e,q⟩:=h;cases rx;cases ry;obtain ⟨z,hd,vs,rel,dd⟩:=sR I.bF (.inl e);exact wpAny_notIn_of (knd:=optKind X.prog X.w) (k:=none) rfl hd (YR dd) ⟨.bl _,H,I.tok _,rfl,q⟩
theorem QH (hu:X.A.units + 64 < cLine):gI X (compareOp .NotIn) (λx y H Q=>∃ a aN o,y=.ref a/\H a=some (.dK aN)/\x=oV o/\Q (.bl (match o with | none=>true | some i=>!(cO aN (Sum.inl i)).isSome)) H):=by
 intro af s σ H x y v u Q I rx ry h;obtain ⟨a,aN,o,rfl,e,rfl,q⟩:=h;cases o with
 | none=>exact QI af s σ H _ _ v u Q I rx ry ⟨a,aN,rfl,rfl,e,q⟩
 | some i=>exact su hu af s σ H _ _ v u Q I rx ry ⟨a,_,rfl,iK.k (k:=Sum.inl i) e,q⟩
end
end L2
namespace Sm
open PySem L2 bh
structure bY where
 h:Nat
 t:Nat
 m:Int
def b9 (ts:List bY):List Int:=ts.flatMap λx=>[(x.t:Int),(x.h:Int)]
noncomputable def bQ (ts:List bY)(p:Nat):Nat->List Int
 | 0=>[]
 | i + 1=>bQ ts p i++(match ts[i]? with
  | some x=>(if x.h=p then [((2 * i:Nat):Int)] else [])++(if x.t=p then [((2 * i + 1:Nat):Int)] else [])
  | none=>[])
noncomputable def hd (ts:List bY)(a:Nat):Nat:=match ts[a / 2]? with
 | some x=>if a % 2=0 then x.t else x.h
 | none=>0
def tl (ts:List bY)(a:Nat):Nat:=hd ts (flip a)
theorem oW (ts:List bY):(b9 ts).length=2 * ts.length:=by
 induction ts with
 | nil=>rfl
 | cons x ts ih=>
  have:b9 (x::ts)=[(x.t:Int),(x.h:Int)]++b9 ts:=rfl;rw [this,zG,ih,zU (a:=x)];show 2 + _=_;omega
theorem oX:∀ {ts:List bY}{a:Nat},a < 2 * ts.length->(b9 ts)[a]?=some (hd ts a:Int)
 | [],a,h=>by simp at h
 | x::ts,a,h=>by
  have e:b9 (x::ts)=[(x.t:Int),(x.h:Int)]++b9 ts:=rfl;rw [e]
  match a with
  | 0=>rfl
  | 1=>rfl
  | a + 2=>
   have h2:a < 2 * ts.length:=by rw [zU] at h;omega
   have:([(x.t:Int),(x.h:Int)]++b9 ts)[a + 2]?=(b9 ts)[a]?:=rfl;rw [this,oX h2];unfold hd;have e1:(a + 2) / 2=a / 2 + 1:=by omega
   have e2:(a + 2) % 2=a % 2:=by omega
   rw [e1,e2];rfl
theorem iB {ts:List bY}{k:Nat}{x:bY}(h:ts[k]?=some x):hd ts (2 * k)=x.t/\hd ts (2 * k + 1)=x.h:=by unfold hd;rw [show 2 * k / 2=k by omega,show (2 * k + 1) / 2=k by omega,h];exact ⟨by dsimp only;rw [if_pos (by omega)],by dsimp only;rw [if_neg (by omega)]⟩
theorem tQ {ts:List bY}{k:Nat}{x:bY}(h:ts[k]?=some x):tl ts (2 * k)=x.h/\tl ts (2 * k + 1)=x.t:=by
 unfold tl;have f1:flip (2 * k)=2 * k + 1:=by unfold flip;rw [if_pos (by omega)]
 have f2:flip (2 * k + 1)=2 * k:=by unfold flip;rw [if_neg (by omega)];omega
 rw [f1,f2];exact ⟨(iB h).2,(iB h).1⟩
theorem RB {ts:List bY}{a:Nat}(h:a < 2 * ts.length):∃ k x,ts[k]?=some x/\(a=2 * k\/a=2 * k + 1):=by
 have:a / 2 < ts.length:=by omega
 exact ⟨a / 2,_,zO this,by omega⟩
theorem jg {ts:List bY}{p:Nat}:∀ {i:Nat}{z:Int},i<=ts.length->(z∈bQ ts p i↔∃ a:Nat,z=(a:Int)/\a < 2 * i/\tl ts a=p)
 | 0,z,_=>by
  constructor
  ·intro h;cases h
  ·rintro ⟨a,_,h,_⟩;omega
 | i + 1,z,hi=>by
  obtain ⟨x,hx⟩:∃ x,ts[i]?=some x:=⟨_,zO (by omega)⟩;have e:bQ ts p (i + 1)=bQ ts p i++((if x.h=p then [((2 * i:Nat):Int)] else [])++(if x.t=p then [((2 * i + 1:Nat):Int)] else [])):=by
   conv=>lhs;unfold bQ
   rw [hx]
  obtain ⟨t1,t2⟩:=tQ hx;rw [e,zW,jg (by omega),zW];constructor
  ·rintro (⟨a,rfl,h1,h2⟩ | h | h)
   ·exact ⟨a,rfl,by omega,h2⟩
   ·split at h
    ·rename_i c;rw [zJ.mp h];exact ⟨2 * i,rfl,by omega,by rw [t1];exact c⟩
    ·cases h
   ·split at h
    ·rename_i c;rw [zJ.mp h];exact ⟨2 * i + 1,rfl,by omega,by rw [t2];exact c⟩
    ·cases h
  ·rintro ⟨a,rfl,h1,h2⟩;by_cases c1:a < 2 * i
   ·exact .inl ⟨a,rfl,c1,h2⟩
   ·rcases (by omega:a=2 * i\/a=2 * i + 1) with rfl | rfl
    ·rw [t1] at h2;exact .inr (.inl (by rw [if_pos h2];exact .head _))
    ·rw [t2] at h2;exact .inr (.inr (by rw [if_pos h2];exact .head _))
def bK (sp:List Int)(a:Nat):Int:=sp[a]?.getD 0
structure Sound (ts:List bY) (sp:List Int):Prop where
 len:sp.length=2 * ts.length
 pos:∀ a,a < 2 * ts.length->0<=bK sp a
 sum:∀ (k:Nat) (x:bY),ts[k]?=some x->bK sp (2 * k) + bK sp (2 * k + 1)=x.m
noncomputable def bump (sp:List Int)(a:Nat)(m:Int):List Int:=(sp.set a (bK sp a - m)).set (flip a) (bK (sp.set a (bK sp a - m)) (flip a) + m)
theorem O6 {sp:List Int}{a b:Nat}{v:Int}(h:a < sp.length):bK (sp.set a v) b=if b=a then v else bK sp b:=by
 unfold bK;rw [List.getElem?_set];by_cases c:a=b
 ·subst c;rw [if_pos rfl,if_pos h,if_pos rfl];rfl
 ·rw [if_neg c,if_neg (λz=>c z.symm)]
theorem pF {sp:List Int}{a:Nat}{m:Int}:(bump sp a m).length=sp.length:=by unfold bump;rw [xj,xj]
theorem mR {sp:List Int}{n a b:Nat}{m:Int}(l:sp.length=2 * n)(h:a < 2 * n):bK (bump sp a m) b=if b=a then bK sp a - m else if b=flip a then bK sp (flip a) + m else bK sp b:=by
 unfold bump;have hf:=mP h;have ne:=We a;rw [O6 (by rw [xj,l];exact hf),O6 (by rw [l];exact h),O6 (by rw [l];exact h),if_neg ne];by_cases c1:b=flip a
 ·rw [if_pos c1,if_neg (λz=>ne (by rw [<-c1,z])),if_pos c1]
 ·rw [if_neg c1,if_neg c1]
noncomputable def fj (ts:List bY)(sp:List Int)(p:Nat):Nat->Int
 | 0=>0
 | i + 1=>fj ts sp p i + (match ts[i]? with
  | some x=>bK sp (2 * i + 1) * ((if x.t=p then 1 else 0) - (if x.h=p then 1 else 0))
  | none=>0)
theorem vW {ts:List bY}{sp:List Int}{a p:Nat}{m:Int}(l:sp.length=2 * ts.length)(h:a < 2 * ts.length):∀ i,i<=ts.length->fj ts (bump sp a m) p i=fj ts sp p i + (if a / 2 < i then m * ((if hd ts a=p then 1 else 0) - (if tl ts a=p then 1 else 0)) else 0)
 | 0,_=>by show (0:Int)=0 + _;rw [if_neg (by omega)];rfl
 | i + 1,hi=>by
  obtain ⟨x,hx⟩:∃ x,ts[i]?=some x:=⟨_,zO (by omega)⟩;have ih:=vW (m:=m) (p:=p) l h i (by omega);have e:∀ dH,fj ts dH p (i + 1)=fj ts dH p i + bK dH (2 * i + 1) * ((if x.t=p then 1 else 0) - (if x.h=p then 1 else 0)):=λdH=>by
   show fj ts dH p i + (match ts[i]? with | some x=>_ | none=>_)=_;rw [hx]
  obtain ⟨h1,h2⟩:=iB hx;obtain ⟨t1,t2⟩:=tQ hx;rw [e,e,ih,mR l h];generalize fj ts sp p i=N;by_cases c1:2 * i + 1=a
  ·subst c1;rw [if_neg (show ¬ (2 * i + 1) / 2 < i by omega),if_pos (show 2 * i + 1=2 * i + 1 from rfl),if_pos (show (2 * i + 1) / 2 < i + 1 by omega),h2,t2];generalize (if x.t=p then (1:Int) else 0)=u;generalize (if x.h=p then (1:Int) else 0)=v;have:m * (v - u)=- (m * (u - v)):=by rw [<-Int.mul_neg];congr 1;omega
   rw [Int.sub_mul,this];omega
  ·rw [if_neg c1];by_cases c2:2 * i + 1=flip a
   ·have ea:a=2 * i:=by have:=congrArg flip c2;rw [flip_flip] at this;rw [<-this];unfold flip;rw [if_neg (by omega)];omega
    subst ea;have:flip (2 * i)=2 * i + 1:=c2.symm;rw [if_pos c2,this,if_neg (show ¬ 2 * i / 2 < i by omega),if_pos (show 2 * i / 2 < i + 1 by omega),h1,t1,Int.add_mul];generalize (if x.t=p then (1:Int) else 0) - (if x.h=p then (1:Int) else 0)=u;omega
   ·rw [if_neg c2];have n1:a≠2 * i:=λz=>c2 (by rw [z];unfold flip;rw [if_pos (by omega)]);by_cases c3:a / 2 < i
    ·rw [if_pos c3,if_pos (show a / 2 < i + 1 by omega)];omega
    ·rw [if_neg c3,if_neg (show ¬ a / 2 < i + 1 by omega)];omega
theorem QO {ts:List bY}{sp:List Int}{a p:Nat}{m:Int}(l:sp.length=2 * ts.length)(h:a < 2 * ts.length):fj ts (bump sp a m) p ts.length=fj ts sp p ts.length + m * ((if hd ts a=p then 1 else 0) - (if tl ts a=p then 1 else 0)):=by rw [vW l h _ (zD _),if_pos (by omega)]
noncomputable def bu (sp:List Int)(w:List Nat)(m:Int):List Int:=w.foldl (λsp a=>bump sp a m) sp
theorem jU {sp:List Int}{w:List Nat}{a:Nat}{m:Int}:bu sp (w++[a]) m=bump (bu sp w m) a m:=by unfold bu;rw [yP];rfl
theorem g7 {sp:List Int}{m:Int}:∀ {w:List Nat},(bu sp w m).length=sp.length:=by
 intro w;induction w generalizing sp with
 | nil=>rfl
 | cons a w ih=>show (bu (bump sp a m) w m).length=_;rw [ih,pF]
inductive iW (ts:List bY) (g:Nat):List Nat->Nat->Prop where
 | nil:iW ts g [] g
 | snoc {w:List Nat}{a:Nat}:iW ts g w (hd ts a)->iW ts g (w++[a]) (tl ts a)
theorem PZ {ts:List bY}{sp:List Int}{g c p:Nat}{w:List Nat}{m:Int}(l:sp.length=2 * ts.length)(b:iW ts g w c)(hw:∀ a∈w,a < 2 * ts.length):fj ts (bu sp w m) p ts.length=fj ts sp p ts.length + m * ((if g=p then 1 else 0) - (if c=p then 1 else 0)):=by
 induction b with
 | nil=>show fj ts sp p _=_;rw [Int.sub_self,xo,Int.add_zero]
 | @snoc w a b ih=>
  have ih:=ih λx hx=>hw x (z4 _ hx);rw [jU,QO (by rw [g7];exact l) (hw a (zQ _ (.head _))),ih];generalize (if g=p then (1:Int) else 0)=u;generalize (if hd ts a=p then (1:Int) else 0)=v;generalize (if tl ts a=p then (1:Int) else 0)=z;have:m * (u - z)=m * (u - v) + m * (v - z):=by rw [<-Int.mul_add];congr 1;omega
  rw [this];omega
theorem Uh {sp:List Int}{n a b:Nat}{m:Int}(l:sp.length=2 * n)(h:a < 2 * n)(m0:0<=m):bK sp b - (if b=a then m else 0)<=bK (bump sp a m) b:=by
 rw [mR l h];by_cases c:b=a
 ·subst c;rw [if_pos rfl,if_pos rfl];exact zb _
 ·rw [if_neg c,if_neg c];split
  ·rename_i c2;rw [<-c2];omega
  ·omega
theorem lX {n:Nat}{m:Int}(m0:0<=m):∀ {w:List Nat}{sp:List Int}{b:Nat},sp.length=2 * n->(∀ a∈w,a < 2 * n)->w.Nodup->bK sp b - (if b∈w then m else 0)<=bK (bu sp w m) b
 | [],sp,b,_,_,_=>by show bK sp b - _<=bK sp b;rw [if_neg (by simp)];omega
 | a::w,sp,b,l,hw,nd=>by
  have nd:=zw.mp nd;have h1:=lX (w:=w) (sp:=bump sp a m) (b:=b) m0 (by rw [pF];exact l) (λx hx=>hw x (.tail _ hx)) nd.2;have h2:=Uh (b:=b) l (hw a (.head _)) m0;have e:bu sp (a::w) m=bu (bump sp a m) w m:=rfl;rw [e];by_cases c:b=a
  ·subst c;rw [if_pos (yF ..)];rw [if_pos rfl] at h2;rw [if_neg nd.1] at h1;omega
  ·rw [if_neg c] at h2;by_cases d:b∈w
   ·rw [if_pos (zn _ d)];rw [if_pos d] at h1;omega
   ·rw [if_neg (by simp [c,d])];rw [if_neg d] at h1;omega
theorem Ug {sp:List Int}{n a k:Nat}{m:Int}(l:sp.length=2 * n)(h:a < 2 * n):bK (bump sp a m) (2 * k) + bK (bump sp a m) (2 * k + 1)=bK sp (2 * k) + bK sp (2 * k + 1):=by
 rw [mR l h,mR l h];have f1:flip (2 * k)=2 * k + 1:=by unfold flip;rw [if_pos (by omega)]
 have f2:flip (2 * k + 1)=2 * k:=by unfold flip;rw [if_neg (by omega)];omega
 by_cases c1:2 * k=a
 ·subst c1;rw [if_pos rfl,if_neg (show ¬ 2 * k + 1=2 * k by omega),f1,if_pos rfl];omega
 ·by_cases c2:2 * k + 1=a
  ·subst c2;rw [if_neg c1,f2,if_pos rfl,if_pos rfl];omega
  ·rw [if_neg c1,if_neg c2,if_neg (λz=>c2 (by rw [<-flip_flip a,<- z,f1])),if_neg (λz=>c1 (by rw [<-flip_flip a,<- z,f2]))]
theorem lW {n k:Nat}{m:Int}:∀ {w:List Nat}{sp:List Int},sp.length=2 * n->(∀ a∈w,a < 2 * n)->bK (bu sp w m) (2 * k) + bK (bu sp w m) (2 * k + 1)=bK sp (2 * k) + bK sp (2 * k + 1)
 | [],_,_,_=>rfl
 | a::w,sp,l,hw=>by
  have e:bu sp (a::w) m=bu (bump sp a m) w m:=rfl;rw [e,lW (by rw [pF];exact l) (λx hx=>hw x (.tail _ hx)),Ug l (hw a (.head _))]
theorem Sound.way {ts:List bY}{sp:List Int}{w:List Nat}{m:Int}(s:Sound ts sp)(m0:0<=m)(hw:∀ a∈w,a < 2 * ts.length/\m<=bK sp a)(nd:w.Nodup):Sound ts (bu sp w m):=by
 refine ⟨by rw [g7];exact s.len,λb hb=>?_,λk x hx=>?_⟩
 ·have:=lX (b:=b) m0 s.len (λa ha=>(hw a ha).1) nd;by_cases c:b∈w
  ·rw [if_pos c] at this;have:=(hw b c).2;omega
  ·rw [if_neg c] at this;have:=s.pos b hb;omega
 ·rw [lW s.len λa ha=>(hw a ha).1];exact s.sum k x hx
noncomputable def Zt (ts:List bY):Nat->Int
 | 0=>0
 | i + 1=>Zt ts i + (match ts[i]? with | some x=>x.m | none=>0)
theorem P4 {ts:List bY}{sp:List Int}(s:Sound ts sp)(p:Nat):∀ i,i<=ts.length->fj ts sp p i<=Zt ts i
 | 0,_=>zb _
 | i + 1,hi=>by
  obtain ⟨x,hx⟩:∃ x,ts[i]?=some x:=⟨_,zO (by omega)⟩;have ih:=P4 s p i (by omega);show fj ts sp p i + (match ts[i]? with | some x=>_ | none=>_)<=Zt ts i + (match ts[i]? with | some x=>_ | none=>_);rw [hx];dsimp only;have h1:=s.pos (2 * i) (by omega);have h2:=s.pos (2 * i + 1) (by omega);have h3:=s.sum i x hx;generalize bK sp (2 * i + 1)=y at h2 h3 ⊢;have:y * ((if x.t=p then 1 else 0) - (if x.h=p then 1 else 0))<=y:=by
   split <;> split <;> simp <;> omega
  omega
structure cD (ts:List bY) (sp:List Int) (n src:Nat) (tree:List (Nat×Option Nat)):Prop where
 root:tree[0]?=some (src,none)
 nod:(tree.map (·.1)).Nodup
 ins:∀ x∈tree,x.1 < n
 arc:∀ (i:Nat) x,tree[i]?=some x->0 < i->∃ a,x.2=some a/\a < 2 * ts.length/\hd ts a=x.1/\0 < bK sp a/\∃ j y,j < i/\tree[j]?=some y/\y.1=tl ts a
noncomputable def bX (ts:List bY)(sp:List Int)(cK:List Nat)(p:Nat):Prop:=∀ a,a < 2 * ts.length->tl ts a=p->0 < bK sp a->hd ts a∈cK
noncomputable def cC (tree:List (Nat×Option Nat)):List (Key×V):=tree.map λx=>(Sum.inl (x.1:Int),oV (x.2.map λa=>(a:Int)))
structure fh (C:Addr) (H:Hp) (x dx lA lE lS:Addr) (as:List Addr) (src:Int) (f:Nat->List Int) (es sp:List Int):Prop where
 ins:H x=some (.ins C dx [("source", .int src),("arcs", .ref lA),("ends", .ref lE),("spare", .ref lS)])
 mE:H lA=some (.lst (as.map V.ref))
 rws:∀ (p:Nat) (a:Addr),as[p]?=some a->H a=some (.lst ((f p).map V.int))
 ends:H lE=some (.lst (es.map V.int))
 i6:H lS=some (.lst (sp.map V.int))
 nd:(lA::lE::lS::as).Nodup
structure mG (C:Addr) (H:Hp) (x dx lA lE lS:Addr) (as:List Addr) (src:Int) (n:Nat) (ts:List bY) (sp:List Int):Prop where
 raw:fh C H x dx lA lE lS as src (λp=>bQ ts p ts.length) (b9 ts) sp
 len:as.length=n
 UU:∀ t∈ts,t.h < n/\t.t < n
 snd:Sound ts sp
 sz:n<=3000/\ts.length<=3000
def bC (M:List Addr)(H H':Hp):Prop:=∀ b u,b ∉ M->H b=some u->H' b=some u
theorem aG.Nd {M:List Addr}{H H':Hp}(s:aG H H'):bC M H H':=λb u _ e=>s b u e
theorem bC.trans {M:List Addr}{H H1 H2:Hp}(a:bC M H H1)(b:bC M H1 H2):bC M H H2:=λc u n e=>b c u n (a c u n e)
theorem bC.upd {M:List Addr}{H:Hp}{p:Addr}{o:HO}(h:p∈M):bC M H (upd H p o):=λb u n e=>by rw [wF (λz=>n (by rw [z];exact h))];exact e
theorem bC.sub {M N:List Addr}{H H':Hp}(a:bC M H H')(s:∀ x∈M,x∈N):bC N H H':=λb u n e=>a b u (λz=>n (s b z)) e
section
variable {C:Addr}{H H':Hp}{x dx lA lE lS:Addr}{as:List Addr}{src:Int}{f:Nat->List Int}{es sp:List Int}{n:Nat}{ts:List bY}
theorem fh.same (a:fh C H x dx lA lE lS as src f es sp)(s:aG H H'):fh C H' x dx lA lE lS as src f es sp:=
 ⟨s _ _ a.ins,s _ _ a.mE,λp r hr=>s _ _ (a.rws p r hr),s _ _ a.ends,s _ _ a.i6,a.nd⟩
theorem mG.same (a:mG C H x dx lA lE lS as src n ts sp)(s:aG H H'):mG C H' x dx lA lE lS as src n ts sp:=⟨a.raw.same s,a.len,a.UU,a.snd,a.sz⟩
theorem fh.nx (a:fh C H x dx lA lE lS as src f es sp):x ∉ lA::lE::lS::as:=by
 intro h;have hx:=a.ins;rcases zH.mp h with rfl | h
 ·rw [a.mE] at hx;cases hx
 rcases zH.mp h with rfl | h
 ·rw [a.ends] at hx;cases hx
 rcases zH.mp h with rfl | h
 ·rw [a.i6] at hx;cases hx
 obtain ⟨i,hi⟩:=z6 h;rw [a.rws i _ hi] at hx;cases hx
theorem fh.ns (a:fh C H x dx lA lE lS as src f es sp):lA≠lE/\lA≠lS/\lA ∉ as/\lE≠lS/\lE ∉ as/\lS ∉ as/\as.Nodup:=by have h1:=zw.mp a.nd;have h2:=zw.mp h1.2;have h3:=zw.mp h2.2;simp only [zH,not_or] at h1 h2;exact ⟨h1.1.1,h1.1.2.1,h1.1.2.2,h2.1.1,h2.1.2,h3.1,h3.2⟩
theorem vQ {α:Type}{as:List α}(nd:as.Nodup){i j:Nat}{a:α}(hi:as[i]?=some a)(hj:as[j]?=some a):i=j:=by
 obtain ⟨h1,e1⟩:=zC.mp hi;obtain ⟨h2,e2⟩:=zC.mp hj;have pw:=zl.mp nd;rcases Nat.lt_trichotomy i j with c | c | c
 ·exact absurd (e1.trans e2.symm) (pw i j h1 h2 c)
 ·exact c
 ·exact absurd (e2.trans e1.symm) (pw j i h2 h1 c)
theorem jb {a b:Addr}{l:List Addr}(ha:a ∉ l)(hb:b∈l):a≠b:=λe=>ha (by rw [e];exact hb)
theorem fh.app (a:fh C H x dx lA lE lS as src f es sp){h:Nat}{l:Addr}{z:Int}(hl:as[h]?=some l):fh C (upd H l (.lst ((f h).map V.int++[V.int z]))) x dx lA lE lS as src (λp=>f p++if h=p then [z] else []) es sp:=by
 obtain ⟨n1,n2,n3,n4,n5,n6,n7⟩:=a.ns;have m:=zB hl;have nx:=a.nx;simp only [zH,not_or] at nx;refine ⟨by rw [wF (jb nx.2.2.2 m)];exact a.ins,by rw [wF (jb n3 m)];exact a.mE,λp b hb=>?_,by rw [wF (jb n5 m)];exact a.ends,by rw [wF (jb n6 m)];exact a.i6,a.nd⟩;by_cases c:h=p
 ·subst c;obtain rfl:l=b:=by rw [hl] at hb;exact Option.some.inj hb
  rw [xq];show _=some (HO.lst (List.map V.int (f h++if h=h then [z] else [])));rw [if_pos rfl,zE];rfl
 ·have:b≠l:=λe=>c (by
   subst e;exact vQ n7 hl hb)
  rw [wF this];show _=some (HO.lst (List.map V.int (f p++if h=p then [z] else [])));rw [if_neg c,zy];exact a.rws p b hb
theorem fh.acn (a:fh C H x dx lA lE lS as src f es sp){es':List Int}:fh C (upd H lE (.lst (es'.map V.int))) x dx lA lE lS as src f es' sp:=by obtain ⟨n1,n2,n3,n4,n5,n6,n7⟩:=a.ns;have nx:=a.nx;simp only [zH,not_or] at nx;exact ⟨by rw [wF nx.2.1];exact a.ins,by rw [wF n1];exact a.mE,λp b hb=>by rw [wF (Ne.symm (jb n5 (zB hb)))];exact a.rws p b hb,xq,by rw [wF (Ne.symm n4)];exact a.i6,a.nd⟩
theorem fh.XG (a:fh C H x dx lA lE lS as src f es sp){dH:List Int}:fh C (upd H lS (.lst (dH.map V.int))) x dx lA lE lS as src f es dH:=by obtain ⟨n1,n2,n3,n4,n5,n6,n7⟩:=a.ns;have nx:=a.nx;simp only [zH,not_or] at nx;exact ⟨by rw [wF nx.2.2.1];exact a.ins,by rw [wF n2];exact a.mE,λp b hb=>by rw [wF (Ne.symm (jb n6 (zB hb)))];exact a.rws p b hb,by rw [wF n4];exact a.ends,xq,a.nd⟩
theorem fh.XF (a:fh C H x dx lA lE lS as src f es sp){src':Int}:fh C (upd H x (.ins C dx [("source", .int src'),("arcs", .ref lA),("ends", .ref lE),("spare", .ref lS)])) x dx lA lE lS as src' f es sp:=by have nx:=a.nx;simp only [zH,not_or] at nx;exact ⟨xq,by rw [wF (Ne.symm nx.1)];exact a.mE,λp b hb=>by rw [wF (Ne.symm (jb nx.2.2.2 (zB hb)))];exact a.rws p b hb,by rw [wF (Ne.symm nx.2.1)];exact a.ends,by rw [wF (Ne.symm nx.2.2.1)];exact a.i6,a.nd⟩
end
noncomputable def U9 (C:Addr):Sp:=λvs H Q _=>∃ x dx,∃ n:Nat,vs=[.ref x,.int (n:Int)]/\H x=some (.ins C dx [])/\n<=3000 /\
 ∀ lA lE lS as H',cL x H H'->mG C H' x dx lA lE lS as 0 n [] []->(∀ b∈lA::lE::lS::as,H b=none)->Q .bL H'
noncomputable def Xx (C:Addr):Sp:=λvs H Q _=>∃ x dx lA lE lS as src n ts sp,∃ h t:Nat,∃ m:Int,vs=[.ref x,.int (h:Int),.int (t:Int),.int m]/\mG C H x dx lA lE lS as src n ts sp/\h < n/\t < n/\0<=m/\ts.length < 3000 /\
 ∀ H',bC (x::lE::lS::as) H H'->mG C H' x dx lA lE lS as src n (ts++[⟨h,t,m⟩]) (sp++[m,0])->Q (.int (ts.length:Int)) H'
noncomputable def U5 (C:Addr):Sp:=λvs H Q _=>∃ x dx lA lE lS as src n ts sp,∃ k:Nat,vs=[.ref x,.int (k:Int)]/\mG C H x dx lA lE lS as src n ts sp/\k < ts.length/\Q (.int (bK sp (2 * k + 1))) H
def cK (tree:List (Nat×Option Nat)):List Nat:=tree.map (·.1)
noncomputable def Vd (C:Addr):Sp:=λvs H Q _=>∃ x dx lA lE lS as,∃ src:Nat,∃ n ts sp,∃ g:Option Nat,vs=[.ref x,oV (g.map λz=>(z:Int))]/\mG C H x dx lA lE lS as (src:Int) n ts sp/\src < n /\
 ∀ d tree H',aG H H'->H d=none->H' d=some (.dK (cC tree))->cD ts sp n src tree->((∀ z,g=some z->z ∉ cK tree)->∀ p∈cK tree,bX ts sp (cK tree) p)->Q (.ref d) H'
noncomputable def Sv (C:Addr):Sp:=λvs H Q _=>∃ x dx lA lE lS as,∃ src:Nat,∃ n ts sp d tree,∃ g:Nat,vs=[.ref x,.ref d,.int (g:Int)]/\mG C H x dx lA lE lS as (src:Int) n ts sp/\H d=some (.dK (cC tree))/\cD ts sp n src tree/\g∈cK tree/\g≠src /\
 ∀ m w H',0 < m->iW ts g w src->(∀ a∈w,a < 2 * ts.length/\m<=bK sp a)->w.Nodup->bC [lS] H H'->mG C H' x dx lA lE lS as (src:Int) n ts (bu sp w m)->Q (.int m) H'
noncomputable def U6 (C:Addr):Sp:=λvs H Q _=>∃ x dx lA lE lS as ZO n ts sp,∃ s g:Nat,vs=[.ref x,.int (s:Int),.int (g:Int)]/\mG C H x dx lA lE lS as ZO n ts sp/\s < n/\g < n/\s≠g /\
 ∀ tot dH tree H',bC [x,lS] H H'->mG C H' x dx lA lE lS as (s:Int) n ts dH->0<=tot->(∀ p,fj ts dH p ts.length=fj ts sp p ts.length + tot * ((if g=p then 1 else 0) - (if s=p then 1 else 0)))->cD ts dH n s tree->g ∉ cK tree->(∀ p∈cK tree,bX ts dH (cK tree) p)->Q (.int tot) H'
end Sm
namespace L2
open PySem PySem.Spec PyProof.Rows
theorem jG {X:Cx}{K:PySem.W.Frag}{e:Expr}{f:Str}{pos:Pos}{ta:TE}(hK:X.K=K)(he:PE X e ta)(hb:attributeBase e f X.env (eval e X.env)=eval e X.env):PE X (.Attribute e f pos) (ZI K ta f):=by subst hK;exact eZ he hb
section
variable {n:Nat}{caps:List Nat}{g:TG}{tc:TT}{te:TE}{σ:St}{H:Hp}{Qf:Addr->Hp->List V->Prop}
theorem NB {lo:Int}{m:Nat}(Pv:Nat->St->List V->Hp->Prop)(h0:Pv 0 (dW n caps σ) [] H)(hn:m<=200000)(hl:∀ i τ acc H,Pv i τ acc H->acc.length<=i)
  (hs:∀ i τ acc H (C:St->List V->Hp->Prop),i < m->Pv i τ acc H->(∀ τ acc H,Pv (i + 1) τ acc H->C τ acc H)->g (.int (lo + i)) τ H fun bR H2=>tc bR H2 λb H3=>if b=true then te bR H3 λy H4=>C bR (acc++[y]) H4 else C bR acc H3)
  (hd:∀ τ acc H,Pv m τ acc H->∀ p,H p=none->Qf p H acc) :
  ∃ W:Nat->Nat->St->List V->Hp->Prop,(∃ m,W 0 m (dW n caps σ) [] H)/\∀ i m' τ acc H,W i m' τ acc H ->
   ((Pb lo m).stop i H/\acc.length<=sizeLine/\∀ p,H p=none->Qf p H acc) \/
   ((Pb lo m).go i H/\acc.length < sizeLine/\∀ x H',(Pb lo m).tG i H x H'->g x τ H' fun bR H2=>tc bR H2 λb H3=>if b=true then te bR H3 λy H4=>∃ Td,Td < m'/\W (i + 1) Td bR (acc++[y]) H4 else ∃ Td,Td < m'/\W (i + 1) Td bR acc H3):=
 NC (J:=Pb lo m) Pv m h0 hn hl (λi τ acc H hi p=>hi) (fun τ acc H p=>zD _)
  (λi τ acc H C hi p c x H' y=>by obtain ⟨e1,e2⟩:=y;subst e1;subst e2;exact hs i τ acc _ C hi p c) hd
end
end L2
namespace Sm
open PySem L2 bh
theorem lZ {ts:List bY}{x:bY}{p:Nat}:∀ i,i<=ts.length->bQ (ts++[x]) p i=bQ ts p i
 | 0,_=>rfl
 | i + 1,hi=>by
  unfold bQ;rw [lZ i (by omega),zX (by omega)]
theorem O8 {ts:List bY}{x:bY}{p:Nat}:bQ (ts++[x]) p (ts++[x]).length=bQ ts p ts.length++((if x.h=p then [((2 * ts.length:Nat):Int)] else [])++(if x.t=p then [((2 * ts.length + 1:Nat):Int)] else [])):=by
 rw [zG];show bQ _ _ (ts.length + 1)=_
 conv=>lhs;unfold bQ
 rw [lZ _ (zD _),zZ (zD _),xF];rfl
theorem Nt {ts:List bY}{x:bY}:b9 (ts++[x])=b9 ts++[(x.t:Int),(x.h:Int)]:=by unfold b9;rw [xJ];rfl
theorem uV {sp:List Int}{a:Nat}{zs:List Int}(h:a < sp.length):bK (sp++zs) a=bK sp a:=by unfold bK;rw [zX h]
theorem Sound.snoc {ts:List bY}{sp:List Int}{x:bY}(s:Sound ts sp)(m0:0<=x.m):Sound (ts++[x]) (sp++[x.m,0]):=by
 have l:=s.len;have e0:bK (sp++[x.m,0]) (2 * ts.length)=x.m:=by unfold bK;rw [zZ (by omega),l,xF];rfl
 have e1:bK (sp++[x.m,0]) (2 * ts.length + 1)=0:=by unfold bK;rw [zZ (by omega),l,show 2 * ts.length + 1 - 2 * ts.length=1 by omega];rfl
 refine ⟨by rw [zG,zG,l];show _ + 2=2 * (_ + 1);omega,λa ha=>?_,λk y hy=>?_⟩
 ·rw [zG] at ha;have ha:a < 2 * (ts.length + 1):=ha;by_cases c:a < 2 * ts.length
  ·rw [uV (by omega)];exact s.pos a c
  ·rcases (by omega:a=2 * ts.length\/a=2 * ts.length + 1) with rfl | rfl
   ·rw [e0];exact m0
   ·rw [e1];exact zb _
 ·by_cases c:k < ts.length
  ·rw [zX c] at hy;rw [uV (by omega),uV (by omega)];exact s.sum k y hy
  ·have hk:k < (ts++[x]).length:=(zC.mp hy).1;rw [zG] at hk;have:k=ts.length:=by have:k < ts.length + 1:=hk;omega
   subst this;rw [zZ (zD _),xF] at hy;cases hy;rw [e0,e1];omega
theorem jc {xs:List Int}{a:Nat}{z:Int}(h:xs[a]?=some z):(xs.map V.int)[a]?=some (V.int z):=by rw [zS,h];rfl
theorem jV {sp:List Int}{a:Nat}(h:a < sp.length):sp[a]?=some (bK sp a):=by unfold bK;rw [zO h];rfl
theorem vZ {xs:List Int}{a:Nat}{z:Int}:(xs.map V.int).set a (.int z)=(xs.set a z).map V.int:=by rw [xf]
theorem jh {ts:List bY}{p:Nat}:∀ i,(bQ ts p i).length<=2 * i
 | 0=>zD _
 | i + 1=>by
  have ih:=jh (ts:=ts) (p:=p) i;unfold bQ;rw [zG];split
  ·rw [zG];split <;> split <;> simp <;> omega
  ·simp;omega
theorem ni {p:Nat}:∀ {tree:List (Nat×Option Nat)},p ∉ cK tree->cO (cC tree) (Sum.inl (p:Int))=none
 | [],_=>rfl
 | x::tree,h=>by
  have h1:¬ x.1=p:=λz=>h (by rw [<-z];exact .head _);have e:cC (x::tree)=(Sum.inl (x.1:Int),oV (x.2.map λa=>(a:Int)))::cC tree:=rfl;rw [e,qN (λz=>h1 (by injection z with z;exact Int.ofNat.inj z))];exact ni λz=>h (.tail _ z)
theorem nh:∀ {tree:List (Nat×Option Nat)}{i p:Nat}{o:Option Nat},(cK tree).Nodup->tree[i]?=some (p,o)->cO (cC tree) (Sum.inl (p:Int))=some (oV (o.map λa=>(a:Int)))
 | [],i,p,o,_,h=>by cases h
 | x::tree,0,p,o,_,h=>by cases h;exact qS rfl
 | x::tree,i + 1,p,o,nd,h=>by
  have e:cC (x::tree)=(Sum.inl (x.1:Int),oV (x.2.map λa=>(a:Int)))::cC tree:=rfl;have nd:(x.1::cK tree).Nodup:=nd;have nd:=zw.mp nd;have h:tree[i]?=some (p,o):=h;have hm:p∈cK tree:=zK.mpr ⟨_,zB h,rfl⟩;rw [e,qN (λz=>nd.1 (by injection z with z;rw [Int.ofNat.inj z];exact hm))];exact nh nd.2 h
theorem kr {p:Nat}{tree:List (Nat×Option Nat)}(nd:(cK tree).Nodup):(cO (cC tree) (Sum.inl (p:Int))).isSome=decide (p∈cK tree):=by
 by_cases c:p∈cK tree
 ·obtain ⟨x,hx,rfl⟩:=zK.mp c;obtain ⟨i,hi⟩:=z6 hx;rw [nh (o:=x.2) nd hi,decide_eq_true c];rfl
 ·rw [ni c,decide_eq_false c];rfl
theorem R4 {p a:Nat}{tree:List (Nat×Option Nat)}(h:p ∉ cK tree):putK (cC tree) (Sum.inl (p:Int)) (.int (a:Int))=cC (tree++[(p,some a)]):=by unfold putK;rw [L2.fu,ni h,if_neg (by decide)];unfold cC;rw [zE];rfl
theorem jD {tree:List (Nat×Option Nat)}{p:Nat}{o:Option Nat}:cK (tree++[(p,o)])=cK tree++[p]:=by unfold cK;rw [zE];rfl
theorem QM {n:Nat}{l:List Nat}(nd:l.Nodup)(h:∀ x∈l,x < n):l.length<=n:=by
 have:=sy (xs:=l.map λx:Nat=>(x:Int)) (ys:=(List.range n).map λx:Nat=>(x:Int)) (yO.mpr (nd.imp λh e=>h (Int.ofNat_inj.mp e))) λx hx=>by
  obtain ⟨y,hy,rfl⟩:=zK.mp hx;exact zK.mpr ⟨y,zh.mpr (h y hy),rfl⟩
 rwa [zA,zA,yK] at this
theorem cD.snoc {ts:List bY}{sp:List Int}{n src:Nat}{tree:List (Nat×Option Nat)}(k:cD ts sp n src tree){a p:Nat}(ha:a < 2 * ts.length)(hp:p ∉ cK tree)(pn:p < n)(he:hd ts a=p)(h0:0 < bK sp a)(hin:tl ts a∈cK tree):cD ts sp n src (tree++[(p,some a)]):=by
 have ve:0 < tree.length:=(zC.mp k.root).1;refine ⟨by rw [zX ve];exact k.root,?_,λx hx=>?_,λi x hx hi=>?_⟩
 ·have:=jD (tree:=tree) (p:=p) (o:=some a);unfold cK at this hp;rw [this];exact List.nodup_append.mpr ⟨k.nod,zw.mpr ⟨by simp,.nil⟩,λb hb c hc=>by rw [zJ.mp hc];exact λz=>hp (z ▸ hb)⟩
 ·rcases zW.mp hx with h | h
  ·exact k.ins x h
  ·rw [zJ.mp h];exact pn
 ·by_cases c:i < tree.length
  ·rw [zX c] at hx;obtain ⟨b,h1,h2,h3,h4,j,y,h5,h6,h7⟩:=k.arc i x hx hi;exact ⟨b,h1,h2,h3,h4,j,y,h5,by rw [zX (by omega)];exact h6,h7⟩
  ·have hl:=(zC.mp hx).1;rw [zG] at hl;have:i=tree.length:=by have:i < tree.length + 1:=hl;omega
   subst this;rw [zZ (zD _),xF] at hx;cases hx;obtain ⟨y,hy,ey⟩:=zK.mp hin;obtain ⟨j,hj⟩:=z6 hy;have jl:=(zC.mp hj).1;exact ⟨a,rfl,ha,he,h0,j,y,jl,by rw [zX jl];exact hj,ey⟩
theorem cD.nd {ts:List bY}{sp:List Int}{n src:Nat}{tree:List (Nat×Option Nat)}(k:cD ts sp n src tree):(cK tree).Nodup:=k.nod
theorem Tu {c:Bool}{A B:Prop}(h1:c=true->A)(h0:c=false->B):if c=true then A else B:=by
 cases c
 ·exact h0 rfl
 ·exact h1 rfl
structure jZ (H H5:Hp) (d l:Addr) (ts:List bY) (sp:List Int) (n src:Nat) (tree:List (Nat×Option Nat)):Prop where
 sm:aG H H5
 fd:H d=none
 fl:H l=none
 ne:d≠l
 hd:H5 d=some (.dK (cC tree))
 hl:H5 l=some (.lst ((cK tree).map λp:Nat=>V.int (p:Int)))
 tk:cD ts sp n src tree
theorem jZ.add {H H5:Hp}{d l:Addr}{ts:List bY}{sp:List Int}{n src:Nat}{tree:List (Nat×Option Nat)}{p a:Nat}(c:jZ H H5 d l ts sp n src tree)(tk:cD ts sp n src (tree++[(p,some a)])):jZ H (upd (upd H5 d (.dK (cC (tree++[(p,some a)])))) l (.lst (((cK tree).map λp:Nat=>V.int (p:Int))++[V.int (p:Int)]))) d l ts sp n src (tree++[(p,some a)]):=
 ⟨aG.put c.fl (aG.put c.fd c.sm),c.fd,c.fl,c.ne,by rw [wF c.ne];exact xq,by rw [xq,jD,zE];rfl,tk⟩
theorem cD.len {ts:List bY}{sp:List Int}{n src:Nat}{tree:List (Nat×Option Nat)}(k:cD ts sp n src tree):tree.length<=n:=by
 have:=QM k.nd λx hx=>by obtain ⟨y,hy,rfl⟩:=zK.mp hx;exact k.ins y hy
 unfold cK at this;rwa [zA] at this
theorem R5 {ts:List bY}{sp:List Int}{n src:Nat}(h:src < n):cD ts sp n src [(src,none)]:=
 ⟨rfl,zw.mpr ⟨by simp,.nil⟩,λx hx=>by rw [zJ.mp hx];exact h,λi x hx hi=>by
  match i,hi with
  | i + 1,_=>cases hx⟩
theorem bX.more {ts:List bY}{sp:List Int}{ps qs:List Nat}{p:Nat}(c:bX ts sp ps p)(h:∀ x∈ps,x∈qs):bX ts sp qs p:=λa h1 h2 h3=>h _ (c a h1 h2 h3)
theorem iW.pos {ts:List bY}{g c:Nat}{w:List Nat}(b:iW ts g w c)(h:g≠c):0 < w.length:=by
 cases b with
 | nil=>exact absurd rfl h
 | snoc b=>rw [zG];exact Nat.succ_pos _
theorem aaI {ts:List bY}{n a:Nat}(UU:∀ t∈ts,t.h < n/\t.t < n)(h:a < 2 * ts.length):hd ts a < n:=by
 obtain ⟨k,x,hx,rfl | rfl⟩:=RB h
 ·rw [(iB hx).1];exact (UU x (zB hx)).2
 ·rw [(iB hx).2];exact (UU x (zB hx)).1
noncomputable def vA (L:L4)(M:M4):Prop:=L.a < M.t/\L.s≠L.w/\(M.lo=(L.s:Int)\/M.hi=(L.s:Int))/\(M.lo=(L.w:Int)\/M.hi=(L.w:Int))
instance (L:L4) (M:M4):Decidable (vA L M):=by unfold vA;infer_instance
section
variable {aa:List Int}{ms:List M4}{ls:List (Addr×L4)}{d:Xb}{m j:Nat}{s:RS}{M:M4}{L:Addr×L4}{o:Option (Nat×Int)}
end
theorem T7 {x:V}(h:cG x=true):sQ x x=true:=by
 cases x with
 | bL=>rfl
 | bl b=>show (b == b)=true;simp
 | int i=>show (i == i)=true;simp
 | str z=>show (z == z)=true;simp
 | _=>cases h
section
variable {ms:List M4}{L:L4}{M:M4}{m:Nat}
end
section
variable {aa:List Int}{ms:List M4}{ls:List (Addr×L4)}{d:Xb}{m:Nat}{M:M4}{s:RS}
end
end Sm
namespace L2
open PySem PySem.Spec PyProof.Rows
end L2
namespace Sm
open PySem L2 bh
def i6 (ts:List bY):List Int:=ts.flatMap λt=>[t.m,0]
theorem vB {ts:List bY}{x:bY}:i6 (ts++[x])=i6 ts++[x.m,0]:=by unfold i6;rw [xJ];rfl
theorem Pp:∀ (ts:List bY) (k:Nat),bK (i6 ts) (2 * k + 1)=0
 | [],k=>by unfold bK i6;simp
 | x::ts,0=>rfl
 | x::ts,k + 1=>by
  have ih:=Pp ts k;have e:i6 (x::ts)=[x.m,0]++i6 ts:=rfl;rw [e];have:bK ([x.m,0]++i6 ts) (2 * (k + 1) + 1)=bK (i6 ts) (2 * k + 1):=rfl;rw [this];exact ih
theorem P0 {ts:List bY}{p:Nat}:∀ i,fj ts (i6 ts) p i=0
 | 0=>rfl
 | i + 1=>by
  show fj ts (i6 ts) p i + (match ts[i]? with | some x=>_ | none=>_)=_;rw [P0 i,Pp];split
  ·rw [Int.zero_mul];rfl
  ·rfl
section
variable {H H5 H6:Hp}{l:Addr}{n m:Nat}{rows:List (Addr×bY)}{p:Addr}
end
theorem bC.same {M:List Addr}{H H1 H2:Hp}(s:aG H H1)(k:bC M H1 H2)(f:∀ b∈M,H b=none):aG H H2:=λb u e=>k b u (λh=>by rw [f b h] at e;cases e) (s b u e)
theorem QW {H H':Hp}{x dx C:Addr}(fx:H x=none)(fd:H dx=none)(b:cL x (upd (upd H dx (.own x)) x (.ins C dx [])) H'):aG H H':=λc u e=>b c u (wC e fx) (by rw [wF (wC e fx),wF (wC e fd)];exact e)
theorem QX {H:Hp}{x dx b:Addr}{o o':HO}(h:upd (upd H dx o) x o' b=none):H b=none:=by
 by_cases c1:b=x
 ·subst c1;rw [xq] at h;cases h
 ·rw [wF c1] at h;by_cases c2:b=dx
  ·subst c2;rw [xq] at h;cases h
  ·rwa [wF c2] at h
theorem jI {ts:List bY}{sp:List Int}{i:Nat}{x:bY}(hx:ts[i]?=some x)(p:Nat):fj ts sp p (i + 1)=fj ts sp p i + bK sp (2 * i + 1) * ((if x.t=p then 1 else 0) - (if x.h=p then 1 else 0)):=by show fj ts sp p i + (match ts[i]? with | some x=>_ | none=>_)=_;rw [hx]
theorem lI {ts:List bY}{sp:List Int}(s:Sound ts sp){k:Nat}{x:bY}(hx:ts[k]?=some x):0<=bK sp (2 * k + 1)/\bK sp (2 * k + 1)<=x.m:=by have hk:=(zC.mp hx).1;have h1:=s.pos (2 * k) (by omega);have h2:=s.pos (2 * k + 1) (by omega);have h3:=s.sum k x hx;omega
theorem sP {K:PySem.W.Frag}{H:Hp}{l d:Addr}{xs:List V}{Q:VK}{neg:Bool}(hf:∀ x∈xs,cG x=true)(hl:H l=some (.lst xs))(hd:H d=some (.lst xs))(q:Q (.bl (if neg=true then !true else true)) H):Vs K neg (.ref l) (.ref d) H Q:=by refine ⟨0,l,d,_,_,λ_=>true,true,by decide,rfl,rfl,.inl ⟨aU.of hl,aU.of hd⟩,by simp,λi x y hx hy=>?_,q⟩;rw [hx] at hy;cases hy;have h:=hf x (zB hx);exact .inr ⟨h,h,(T7 h).symm⟩
theorem cD.src {ts:List bY}{sp:List Int}{n src:Nat}{tree:List (Nat×Option Nat)}(k:cD ts sp n src tree):src∈cK tree:=zK.mpr ⟨_,zB k.root,rfl⟩
def dY (f:Nat->Int):List Nat->Int
 | []=>0
 | p::S=>f p + dY f S
theorem Sx (f g:Nat->Int):∀ S,dY (λp=>f p + g p) S=dY f S + dY g S
 | []=>rfl
 | p::S=>by show f p + g p + dY _ S=f p + dY f S + (g p + dY g S);rw [Sx f g S];omega
theorem Ou (f g:Nat->Int):∀ S,dY (λp=>f p - g p) S=dY f S - dY g S
 | []=>rfl
 | p::S=>by show f p - g p + dY _ S=f p + dY f S - (g p + dY g S);rw [Ou f g S];omega
theorem Ov (c:Int)(f:Nat->Int):∀ S,dY (λp=>c * f p) S=c * dY f S
 | []=>by show (0:Int)=c * 0;rw [xo]
 | p::S=>by show c * f p + dY _ S=c * (f p + dY f S);rw [Ov c f S,Int.mul_add]
theorem nF (t:Nat):∀ {S:List Nat},S.Nodup->dY (λp=>if t=p then 1 else 0) S=if t∈S then 1 else 0
 | [],_=>by rw [if_neg (by simp)];rfl
 | p::S,nd=>by
  have nd:=zw.mp nd;show (if t=p then (1:Int) else 0) + dY _ S=_;rw [nF t nd.2];by_cases c:t=p
  ·subst c;rw [if_pos rfl,if_neg nd.1,if_pos (yF ..)];rfl
  ·rw [if_neg c];by_cases d:t∈S
   ·rw [if_pos d,if_pos (zn _ d)];rfl
   ·rw [if_neg d,if_neg (by simp [c,d])];rfl
theorem Px:∀ S,dY (λ_=>0) S=0
 | []=>rfl
 | p::S=>by show (0:Int) + dY _ S=0;rw [Px S];rfl
noncomputable def gB (ts:List bY)(S:List Nat):Nat->Int
 | 0=>0
 | i + 1=>gB ts S i + (match ts[i]? with | some x=>(if x.h∈S/\x.t ∉ S then x.m else 0) | none=>0)
theorem P1 {ts:List bY}{sp:List Int}(s:Sound ts sp){S:List Nat}(nd:S.Nodup)(cl:∀ p∈S,bX ts sp S p):∀ i,i<=ts.length->dY (λp=>fj ts sp p i) S=- gB ts S i
 | 0,_=>Px S
 | i + 1,hi=>by
  obtain ⟨x,hx⟩:∃ x,ts[i]?=some x:=⟨_,zO (by omega)⟩;have ih:=P1 s nd cl i (by omega);have e:(λp=>fj ts sp p (i + 1))=λp=>fj ts sp p i + bK sp (2 * i + 1) * ((if x.t=p then 1 else 0) - (if x.h=p then 1 else 0)):=by funext p;exact jI hx p
  have ec:gB ts S (i + 1)=gB ts S i + (if x.h∈S/\x.t ∉ S then x.m else 0):=by
   show gB ts S i + (match ts[i]? with | some x=>_ | none=>_)=_;rw [hx]
  rw [e,Sx,ih,Ov,Ou,nF _ nd,nF _ nd,ec];have h1:=s.pos (2 * i) (by omega);have h2:=s.pos (2 * i + 1) (by omega);have h3:=s.sum i x hx;obtain ⟨a1,a2⟩:=iB hx;obtain ⟨b1,b2⟩:=tQ hx;by_cases c1:x.h∈S
  ·by_cases c2:x.t∈S
   ·rw [if_pos c2,if_pos c1,if_neg (λh=>h.2 c2)];omega
   ·rw [if_neg c2,if_pos c1,if_pos ⟨c1,c2⟩];have:¬ 0 < bK sp (2 * i):=λh=>c2 (by have:=cl _ c1 (2 * i) (by omega) b1 h;rwa [a1] at this);have:bK sp (2 * i + 1)=x.m:=by omega
    rw [this];omega
  ·rw [if_neg c1,if_neg (show ¬ (x.h∈S/\x.t ∉ S) from λh=>c1 h.1)];by_cases c2:x.t∈S
   ·rw [if_pos c2];have:¬ 0 < bK sp (2 * i + 1):=λh=>c1 (by have:=cl _ c2 (2 * i + 1) (by omega) b2 h;rwa [a2] at this);have:bK sp (2 * i + 1)=0:=by omega
    rw [this];omega
   ·rw [if_neg c2];omega
theorem Wk {ts:List bY}{sp:List Int}(s:Sound ts sp){S:List Nat}(nd:S.Nodup)(cl:∀ p∈S,bX ts sp S p){tot:Int}{s0 g:Nat}(h0:s0∈S)(hg:g ∉ S)(nt:∀ p,fj ts sp p ts.length=tot * ((if g=p then 1 else 0) - (if s0=p then 1 else 0))):gB ts S ts.length=tot:=by have:=P1 s nd cl _ (zD _);have e:(λp=>fj ts sp p ts.length)=λp=>tot * ((if g=p then 1 else 0) - (if s0=p then 1 else 0)):=funext nt;rw [e,Ov,Ou,nF _ nd,nF _ nd,if_neg hg,if_pos h0] at this;omega
theorem mG.kept {C:Addr}{H H':Hp}{x dx lA lE lS:Addr}{as:List Addr}{src:Int}{n:Nat}{ts:List bY}{sp:List Int}{M:List Addr}(a:mG C H x dx lA lE lS as src n ts sp)(k:bC M H H')(f:∀ b∈x::lA::lE::lS::as,b ∉ M):mG C H' x dx lA lE lS as src n ts sp:=
 ⟨⟨k _ _ (f _ (.head _)) a.raw.ins,k _ _ (f _ (.tail _ (.head _))) a.raw.mE,λp r hr=>k _ _ (f _ (.tail _ (.tail _ (.tail _ (.tail _ (zB hr)))))) (a.raw.rws p r hr),k _ _ (f _ (.tail _ (.tail _ (.head _)))) a.raw.ends,k _ _ (f _ (.tail _ (.tail _ (.tail _ (.head _))))) a.raw.i6,a.raw.nd⟩,a.len,a.UU,a.snd,a.sz⟩
theorem vM {C:Addr}{H:Hp}{x dx lA lE lS:Addr}{as:List Addr}{src:Int}{n:Nat}{ts:List bY}{sp:List Int}(a:mG C H x dx lA lE lS as src n ts sp):∀ b∈x::lA::lE::lS::as,H b≠none:=by
 intro b hb;rcases zH.mp hb with rfl | hb
 ·rw [a.raw.ins];exact λz=>by cases z
 rcases zH.mp hb with rfl | hb
 ·rw [a.raw.mE];exact λz=>by cases z
 rcases zH.mp hb with rfl | hb
 ·rw [a.raw.ends];exact λz=>by cases z
 rcases zH.mp hb with rfl | hb
 ·rw [a.raw.i6];exact λz=>by cases z
 obtain ⟨i,hi⟩:=z6 hb;rw [a.raw.rws i _ hi];exact λz=>by cases z
structure Lay (N W:Nat) (lo hi:Nat->Nat) (wait:Nat->Nat->Int) (th bk:Nat->Int) (g:Nat->Option Nat) (j4 out:Nat->Nat->Int) (tot:Int) (a z s0 w0:Nat):Prop where
 ne:∀ i,i < N->lo i≠hi i/\lo i < W/\hi i < W
 pos:∀ i v,0<=wait i v
 gv:∀ i,i < N->(g i=none/\th i=bk i/\0<=th i)\/(g i=some (lo i)/\th i=1/\bk i=0)\/(g i=some (hi i)/\th i=0/\bk i=1)
 VG:∀ i v,i < N->v < W->wait i v + (if v=hi i then th i else 0) + (if v=lo i then bk i else 0)<=j4 (i + 1) v
 SX:∀ i v,i < N->v < W->out i v=wait i v + (if v=lo i then th i else 0) + (if v=hi i then bk i else 0)
 last:∀ v,v < W->out N v=0
 Za:∀ i v,i<=N->v < W->¬ (i=z/\v=w0)->j4 i v=out i v
noncomputable def cS (lo hi:Nat->Nat)(g:Nat->Option Nat)(i v:Nat):Nat:=if g i=some v then (if v=lo i then hi i else lo i) else v
noncomputable def Qj (j4:Nat->Nat->Int)(W i v1 v2:Nat):Prop:=v1 < W/\v2 < W/\((v1=v2/\2<=j4 i v1)\/(v1≠v2/\1<=j4 i v1/\1<=j4 i v2))
section
variable {N W:Nat}{lo hi:Nat->Nat}{wait:Nat->Nat->Int}{th bk:Nat->Int}{g:Nat->Option Nat}{j4 out:Nat->Nat->Int}{tot:Int} {a z s0 w0:Nat}
theorem Lay.dX (L:Lay N W lo hi wait th bk g j4 out tot a z s0 w0){i v:Nat}(iG:i < N)(hv:v < W)(hz:¬ (i=z/\v=w0))(ng:g i≠some v):j4 i v<=j4 (i + 1) v:=by
 have h1:=L.VG i v iG hv;rw [L.Za i v (by omega) hv hz,L.SX i v iG hv];have h2:=L.gv i iG;have h3:=(L.ne i iG).1;by_cases c1:v=lo i
 ·have c2:¬ v=hi i:=λe=>h3 (c1.symm.trans e);rw [if_pos c1,if_neg c2] at *;rcases h2 with ⟨_,e,_⟩ | ⟨e,_,_⟩ | ⟨_,e1,e2⟩
  ·omega
  ·exact absurd (by rw [e,c1]) ng
  ·omega
 ·by_cases c2:v=hi i
  ·rw [if_neg c1,if_pos c2] at *;rcases h2 with ⟨_,e,_⟩ | ⟨_,e1,e2⟩ | ⟨e,_,_⟩
   ·omega
   ·omega
   ·exact absurd (by rw [e,c2]) ng
  ·rw [if_neg c1,if_neg c2] at *;omega
theorem Lay.give (L:Lay N W lo hi wait th bk g j4 out tot a z s0 w0){i v:Nat}(iG:i < N)(hg:g i=some v):cS lo hi g i v≠v/\cS lo hi g i v < W/\v < W/\1<=j4 (i + 1) (cS lo hi g i v)/\(¬ (i=z/\cS lo hi g i v=w0)->j4 i (cS lo hi g i v) + 1<=j4 (i + 1) (cS lo hi g i v))/\(¬ (i=z/\v=w0)->j4 i v - 1<=j4 (i + 1) v):=by
 obtain ⟨h3,h4,h5⟩:=L.ne i iG;unfold cS;rw [if_pos hg];rcases L.gv i iG with ⟨e,_⟩ | ⟨e,e1,e2⟩ | ⟨e,e1,e2⟩
 ·rw [e] at hg;cases hg
 ·obtain rfl:v=lo i:=by rw [e] at hg;exact (Option.some.inj hg).symm
  rw [if_pos rfl];have n1:=L.VG i (hi i) iG h5;have n2:=L.VG i (lo i) iG h4;have p1:=L.pos i (hi i);rw [if_pos rfl,if_neg (Ne.symm h3)] at n1;rw [if_neg h3,if_pos rfl] at n2;refine ⟨Ne.symm h3,h5,h4,by omega,λhz=>?_,λhz=>?_⟩
  ·rw [L.Za i _ (by omega) h5 hz,L.SX i _ iG h5,if_neg (Ne.symm h3),if_pos rfl];omega
  ·rw [L.Za i _ (by omega) h4 hz,L.SX i _ iG h4,if_pos rfl,if_neg h3];omega
 ·obtain rfl:v=hi i:=by rw [e] at hg;exact (Option.some.inj hg).symm
  rw [if_neg (Ne.symm h3)];have n1:=L.VG i (lo i) iG h4;have n2:=L.VG i (hi i) iG h5;have p1:=L.pos i (lo i);rw [if_neg h3,if_pos rfl] at n1;rw [if_pos rfl,if_neg (Ne.symm h3)] at n2;refine ⟨h3,h4,h5,by omega,λhz=>?_,λhz=>?_⟩
  ·rw [L.Za i _ (by omega) h4 hz,L.SX i _ iG h4,if_pos rfl,if_neg h3];omega
  ·rw [L.Za i _ (by omega) h5 hz,L.SX i _ iG h5,if_neg (Ne.symm h3),if_pos rfl];omega
theorem Lay.two (L:Lay N W lo hi wait th bk g j4 out tot a z s0 w0){i v1 v2:Nat}(iG:i < N)(hz:i≠z)(t:Qj j4 W i v1 v2):Qj j4 W (i + 1) (cS lo hi g i v1) (if g i=some v1 then v2 else cS lo hi g i v2):=by
 have nz:∀ v,¬ (i=z/\v=w0):=λv h=>hz h.1;obtain ⟨w1,w2,t⟩:=t;by_cases c1:g i=some v1
 ·rw [if_pos c1];obtain ⟨m1,m2,m3,m4,m5,m6⟩:=L.give iG c1;refine ⟨m2,w2,?_⟩;rcases t with ⟨rfl,t⟩ | ⟨ne,t1,t2⟩
  ·exact .inr ⟨m1,m4,by have:=m6 (nz _);omega⟩
  ·have st:=L.dX iG w2 (nz _) (λe=>ne (by rw [c1] at e;exact Option.some.inj e));by_cases c2:cS lo hi g i v1=v2
   ·exact .inl ⟨c2,by have:=m5 (nz _);rw [c2] at this ⊢;omega⟩
   ·exact .inr ⟨c2,m4,by omega⟩
 ·rw [if_neg c1];have e1:cS lo hi g i v1=v1:=by unfold cS;rw [if_neg c1]
  rw [e1];have Pn:=L.dX iG w1 (nz _) c1;by_cases c2:g i=some v2
  ·obtain ⟨m1,m2,m3,m4,m5,m6⟩:=L.give iG c2;refine ⟨w1,m2,?_⟩;rcases t with ⟨rfl,t⟩ | ⟨ne,t1,t2⟩
   ·exact absurd c2 c1
   ·by_cases c3:v1=cS lo hi g i v2
    ·exact .inl ⟨c3,by have:=m5 (nz _);rw [<-c3] at this;omega⟩
    ·exact .inr ⟨c3,by omega,m4⟩
  ·have e2:cS lo hi g i v2=v2:=by unfold cS;rw [if_neg c2]
   rw [e2];have vc:=L.dX iG w2 (nz _) c2;refine ⟨w1,w2,?_⟩;rcases t with ⟨rfl,t⟩ | ⟨ne,t1,t2⟩
   ·exact .inl ⟨rfl,by omega⟩
   ·exact .inr ⟨ne,by omega,by omega⟩
theorem Lay.dead (L:Lay N W lo hi wait th bk g j4 out tot a z s0 w0):∀ (k i v:Nat),i + k=N->v < W->z<=i->¬ (i=z/\v=w0)->j4 i v<=0
 | 0,i,v,e,hv,_,hz=>by
  obtain rfl:i=N:=by omega
  rw [L.Za i v (zD _) hv hz,L.last v hv];exact zb _
 | k + 1,i,v,e,hv,zi,hz=>by
  have iG:i < N:=by omega
  by_cases c:g i=some v
  ·obtain ⟨m1,m2,m3,m4,m5,m6⟩:=L.give iG c;have d:=L.dead k (i + 1) (cS lo hi g i v) (by omega) m2 (by omega) (by omega);omega
  ·have:=L.dX iG hv hz c;have d:=L.dead k (i + 1) v (by omega) hv (by omega) (by omega);omega
theorem Lay.ends (L:Lay N W lo hi wait th bk g j4 out tot a z s0 w0)(zN:z<=N){v1 v2:Nat}(t:Qj j4 W z v1 v2):v1=w0/\v2=w0:=by
 obtain ⟨w1,w2,t⟩:=t;have d:∀ v,v < W->v≠w0->j4 z v<=0:=λv hv ne=>L.dead (N - z) z v (by omega) hv (zD _) λh=>ne h.2;by_cases c1:v1=w0
 ·by_cases c2:v2=w0
  ·exact ⟨c1,c2⟩
  ·have:=d v2 w2 c2;rcases t with ⟨e,t⟩ | ⟨_,_,t⟩
   ·subst e;omega
   ·omega
 ·have:=d v1 w1 c1;rcases t with ⟨_,t⟩ | ⟨_,t,_⟩ <;> omega
end
def bf (ms:List M4)(i:Nat):Nat:=(ms[i]?.map λm=>m.lo.toNat).getD 0
def bg (ms:List M4)(i:Nat):Nat:=(ms[i]?.map λm=>m.hi.toNat).getD 0
noncomputable def iF (ms:List M4)(W i:Nat):List bY:=(cM ms i).map λy=>⟨y.n * W + y.w.g,y.n * W + W + y.w.o,1⟩
noncomputable def aX (ms:List M4)(W:Nat):List bY:=iF ms W ms.length++(List.range (W * ms.length)).map λq=>⟨q,q + W,2⟩
theorem Pg {ms:List M4}{W i:Nat}(h:i < ms.length):iF ms W (i + 1)=iF ms W i++[⟨i * W + bf ms i,i * W + W + bg ms i,1⟩,⟨i * W + bg ms i,i * W + W + bf ms i,1⟩]:=by have e:ms[i]?=some ms[i]:=zO h;unfold iF bf bg;rw [iX e,zE,e];rfl
theorem iZ {ms:List M4}{W:Nat}:∀ i,i<=ms.length->(iF ms W i).length=2 * i
 | 0,_=>rfl
 | i + 1,h=>by rw [Pg (by omega),zG,iZ i (by omega)];show 2 * i + 2=_;omega
theorem Sa {ms:List M4}{W j:Nat}:∀ i,i<=ms.length->j < i->(iF ms W i)[2 * j]?=some ⟨j * W + bf ms j,j * W + W + bg ms j,1⟩/\(iF ms W i)[2 * j + 1]?=some ⟨j * W + bg ms j,j * W + W + bf ms j,1⟩
 | 0,_,h=>by omega
 | i + 1,hi,h=>by
  have l:=iZ (ms:=ms) (W:=W) i (by omega);rw [Pg (by omega)];by_cases c:j < i
  ·rw [zX (by omega),zX (by omega)];exact Sa i (by omega) c
  ·obtain rfl:j=i:=by omega
   rw [zZ (by omega),zZ (by omega),l,xF,show 2 * j + 1 - 2 * j=1 by omega];exact ⟨rfl,rfl⟩
theorem jm {ms:List M4}{W j:Nat}(h:j < ms.length):(aX ms W)[2 * j]?=some ⟨j * W + bf ms j,j * W + W + bg ms j,1⟩/\(aX ms W)[2 * j + 1]?=some ⟨j * W + bg ms j,j * W + W + bf ms j,1⟩:=by have l:=iZ (ms:=ms) (W:=W) ms.length (zD _);unfold aX;rw [zX (by omega),zX (by omega)];exact Sa _ (zD _) h
theorem rS {ms:List M4}{W q:Nat}(h:q < W * ms.length):(aX ms W)[2 * ms.length + q]?=some ⟨q,q + W,2⟩:=by have l:=iZ (ms:=ms) (W:=W) ms.length (zD _);unfold aX;rw [zZ (by omega),l,show 2 * ms.length + q - 2 * ms.length=q by omega,zS,xL h];rfl
theorem nq {ms:List M4}{W:Nat}:(aX ms W).length=2 * ms.length + W * ms.length:=by unfold aX;rw [zG,iZ _ (zD _),zA,yK]
theorem nN {W j u i v:Nat}(hu:u < W)(hv:v < W):j * W + u=i * W + v↔j=i/\u=v:=by
 constructor
 ·intro h;have e1:(j * W + u) / W=j:=by rw [Nat.add_comm,Nat.add_mul_div_right _ _ (by omega),Nat.div_eq_of_lt hu];omega
  have e2:(i * W + v) / W=i:=by rw [Nat.add_comm,Nat.add_mul_div_right _ _ (by omega),Nat.div_eq_of_lt hv];omega
  rw [h,e2] at e1;subst e1;exact ⟨rfl,by omega⟩
 ·rintro ⟨rfl,rfl⟩;rfl
def gM (sp:List Int)(j:Nat):Int:=bK sp (2 * (2 * j) + 1)
def ia (sp:List Int)(j:Nat):Int:=bK sp (2 * (2 * j + 1) + 1)
noncomputable def mT (ms:List M4)(W:Nat)(sp:List Int)(i v:Nat):Int:=bK sp (2 * (2 * ms.length + (i * W + v)) + 1)
theorem vU {ms:List M4}{W i v:Nat}{sp:List Int}(hv:v < W)(ins:∀ j,j < ms.length->bf ms j < W/\bg ms j < W):∀ j,j<=ms.length->fj (aX ms W) sp (i * W + v) (2 * j)=(if 1<=i/\i<=j then (if v=bg ms (i - 1) then gM sp (i - 1) else 0) + (if v=bf ms (i - 1) then ia sp (i - 1) else 0) else 0) - (if i < j then (if v=bf ms i then gM sp i else 0) + (if v=bg ms i then ia sp i else 0) else 0)
 | 0,_=>by
  rw [if_neg (by omega),if_neg (by omega)];rfl
 | j + 1,hj=>by
  obtain ⟨g1,g2⟩:=jm (W:=W) (show j < ms.length by omega);obtain ⟨i1,i2⟩:=ins j (by omega);have ih:=vU (sp:=sp) (i:=i) hv ins j (by omega);rw [show 2 * (j + 1)=2 * j + 1 + 1 by omega,jI g2,jI g1,ih];have e1:j * W + W + bg ms j=i * W + v↔j + 1=i/\bg ms j=v:=by rw [<-nN i2 hv,yV]
  have e2:j * W + W + bf ms j=i * W + v↔j + 1=i/\bf ms j=v:=by rw [<-nN i1 hv,yV]
  have e3:=nN (j:=j) (i:=i) i1 hv;have e4:=nN (j:=j) (i:=i) i2 hv;simp only [e1,e2,e3,e4];show _ + gM sp j * _ + ia sp j * _=_;have k1:∀ (s:Int) (u:Nat),s * (if u=v then 1 else 0)=if v=u then s else 0:=λs u=>by
   by_cases c:u=v
   ·rw [if_pos c,if_pos c.symm,Int.mul_one]
   ·rw [if_neg c,if_neg (λe=>c e.symm),xo]
  by_cases c1:j + 1=i
  ·subst c1;have n1:¬ j=j + 1:=by omega
   rw [if_neg (show ¬ (1<=j + 1/\j + 1<=j) by omega),if_neg (show ¬ j + 1 < j by omega),if_pos (show 1<=j + 1/\j + 1<=j + 1 by omega),if_neg (show ¬ j + 1 < j + 1 by omega),show j + 1 - 1=j by omega];simp only [n1,false_and,true_and,if_false,Int.mul_sub,k1,xo];omega
  ·by_cases c2:j=i
   ·subst c2;rw [if_neg (show ¬ j < j by omega),if_pos (show j < j + 1 by omega)];have t1:(1<=j/\j<=j)↔(1<=j/\j<=j + 1):=by omega
    simp only [c1,t1,false_and,true_and,if_false,Int.mul_sub,k1,xo];omega
   ·have t1:(1<=i/\i<=j)↔(1<=i/\i<=j + 1):=by omega
    have t2:i < j↔i < j + 1:=by omega
    simp only [c1,c2,t1,t2,false_and,if_false];omega
theorem vV {ms:List M4}{W p:Nat}{sp:List Int}(W1:1<=W):∀ q,q<=W * ms.length->fj (aX ms W) sp p (2 * ms.length + q)=fj (aX ms W) sp p (2 * ms.length) + (if W<=p/\p - W < q then bK sp (2 * (2 * ms.length + (p - W)) + 1) else 0) - (if p < q then bK sp (2 * (2 * ms.length + p) + 1) else 0)
 | 0,_=>by
  rw [if_neg (by omega),if_neg (by omega)];show fj _ _ _ (2 * ms.length)=_;omega
 | q + 1,hq=>by
  have ih:=vV (ms:=ms) (sp:=sp) (p:=p) W1 q (by omega);have g:=rS (ms:=ms) (W:=W) (show q < W * ms.length by omega);rw [show 2 * ms.length + (q + 1)=2 * ms.length + q + 1 by omega,jI g,ih];dsimp only;generalize fj (aX ms W) sp p (2 * ms.length)=X;by_cases c1:q + W=p
  ·subst c1;rw [if_neg (show ¬ (W<=q + W/\q + W - W < q) by omega),if_neg (show ¬ q + W < q by omega),if_pos rfl,if_neg (show ¬ q=q + W by omega),if_pos (show W<=q + W/\q + W - W < q + 1 by omega),if_neg (show ¬ q + W < q + 1 by omega),show q + W - W=q by omega];omega
  ·by_cases c2:q=p
   ·subst c2;rw [if_neg (show ¬ q < q by omega),if_neg c1,if_pos rfl,if_pos (show q < q + 1 by omega)];have t1:(W<=q/\q - W < q)↔(W<=q/\q - W < q + 1):=by omega
    simp only [t1];omega
   ·have t1:(W<=p/\p - W < q)↔(W<=p/\p - W < q + 1):=by omega
    have t2:p < q↔p < q + 1:=by omega
    rw [if_neg c1,if_neg c2];simp only [t1,t2];omega
noncomputable def sL (ms:List M4)(W:Nat)(sp:List Int):Nat->Nat->Int
 | 0,_=>0
 | i + 1,v=>mT ms W sp i v + (if v=bg ms i then gM sp i else 0) + (if v=bf ms i then ia sp i else 0)
noncomputable def sj (ms:List M4)(W:Nat)(sp:List Int)(i v:Nat):Int:=if i < ms.length then mT ms W sp i v + (if v=bf ms i then gM sp i else 0) + (if v=bg ms i then ia sp i else 0) else 0
theorem QN {ms:List M4}{W i v:Nat}{sp:List Int}(hv:v < W)(ins:∀ j,j < ms.length->bf ms j < W/\bg ms j < W)(iG:i<=ms.length):fj (aX ms W) sp (i * W + v) (aX ms W).length=sL ms W sp i v - sj ms W sp i v:=by
 rw [nq,vV (by omega) _ (zD _),vU hv ins _ (zD _)];have lt:i * W + v < W * ms.length↔i < ms.length:=by
  constructor
  ·intro h;by_cases c:i < ms.length
   ·exact c
   ·obtain rfl:i=ms.length:=by omega
    rw [xb W] at h;omega
  ·intro h;have:(i + 1) * W<=ms.length * W:=Nat.mul_le_mul_right _ h;rw [yV] at this;rw [xb W];omega
 cases i with
 | zero=>
  rw [if_neg (show ¬ (1<=0/\0<=ms.length) by omega),if_neg (show ¬ (W<=0 * W + v/\0 * W + v - W < W * ms.length) from λh=>by rw [Nat.zero_mul] at h;omega)];unfold sj;by_cases c:0 < ms.length
  ·rw [if_pos c,if_pos c,if_pos (lt.mpr c)];show _=0 - (mT ms W sp 0 v + _ + _);unfold mT;omega
  ·rw [if_neg c,if_neg c,if_neg (λh=>c (lt.mp h))];show _=(0:Int) - 0;omega
 | succ i=>
  have e1:(i + 1) * W + v - W=i * W + v:=by rw [yV];omega
  have lt2:i * W + v < W * ms.length:=by
   have:(i + 1) * W<=ms.length * W:=Nat.mul_le_mul_right _ iG;rw [yV] at this;rw [xb W];omega
  rw [e1,if_pos (show 1<=i + 1/\i + 1<=ms.length by omega),if_pos (show W<=(i + 1) * W + v/\i * W + v < W * ms.length from ⟨by rw [yV];omega,lt2⟩),show i + 1 - 1=i by omega];unfold sj;show _=mT ms W sp i v + _ + _ - _;by_cases c:i + 1 < ms.length
  ·rw [if_pos c,if_pos c,if_pos (lt.mpr c)];unfold mT;omega
  ·rw [if_neg c,if_neg c,if_neg (λh=>c (lt.mp h))];unfold mT;omega
theorem uW {ts:List bY}{sp:List Int}(s:Sound ts sp)(a:Nat):0<=bK sp a:=by
 by_cases c:a < 2 * ts.length
 ·exact s.pos a c
 ·unfold bK;rw [yZ (by rw [s.len];omega)];exact zb _
noncomputable def cu (ms:List M4)(sp:List Int)(i:Nat):Option Nat:=if gM sp i=ia sp i then none else if ia sp i < gM sp i then some (bf ms i) else some (bg ms i)
theorem aag {ms:List M4}{W:Nat}{sp:List Int}{tot:Int}{a z s0 w0:Nat}(s:Sound (aX ms W) sp)(t0:0<=tot)(ins:∀ j,j < ms.length->bf ms j≠bg ms j/\bf ms j < W/\bg ms j < W)(hs:s0 < W)(hw:w0 < W)
  (nt:∀ p,fj (aX ms W) sp p (aX ms W).length=tot * ((if z * W + w0=p then 1 else 0) - (if a * W + s0=p then 1 else 0))) :
  Lay ms.length W (bf ms) (bg ms) (mT ms W sp) (gM sp) (ia sp) (cu ms sp) (λi v=>sL ms W sp i v + tot * (if a=i/\s0=v then 1 else 0)) (sj ms W sp) tot a z s0 w0:=by
 refine ⟨ins,λi v=>uW s _,λi iG=>?_,λi v iG hv=>?_,λi v iG hv=>?_,λv hv=>?_,λi v iG hv hz=>?_⟩
 ·obtain ⟨g1,g2⟩:=jm (W:=W) iG;have w1:=lI s g1;have w2:=lI s g2;have w1:0<=gM sp i/\gM sp i<=1:=w1;have w2:0<=ia sp i/\ia sp i<=1:=w2;unfold cu;by_cases c1:gM sp i=ia sp i
  ·rw [if_pos c1];exact .inl ⟨rfl,c1,w1.1⟩
  ·rw [if_neg c1];by_cases c2:ia sp i < gM sp i
   ·rw [if_pos c2];exact .inr (.inl ⟨rfl,by omega,by omega⟩)
   ·rw [if_neg c2];exact .inr (.inr ⟨rfl,by omega,by omega⟩)
 ·have:0<=tot * (if a=i + 1/\s0=v then 1 else 0):=by split <;> omega
  show _<=sL ms W sp (i + 1) v + tot * (if a=i + 1/\s0=v then 1 else 0);show _<=mT ms W sp i v + _ + _ + _;omega
 ·unfold sj;rw [if_pos iG]
 ·unfold sj;rw [if_neg (by omega)]
 ·have h:=nt (i * W + v);rw [QN hv (λj hj=>(ins j hj).2) iG] at h;have e1:=nN (j:=z) (i:=i) hw hv;have e2:=nN (j:=a) (i:=i) hs hv;simp only [e1,e2] at h;rw [if_neg (show ¬ (z=i/\w0=v) from λe=>hz ⟨e.1.symm,e.2.symm⟩),Int.mul_sub,xo] at h;show sL ms W sp i v + tot * (if a=i/\s0=v then 1 else 0)=_;omega
theorem sS {ts:List bY}{S:List Nat}{i:Nat}{x:bY}(hx:ts[i]?=some x):gB ts S (i + 1)=gB ts S i + (if x.h∈S/\x.t ∉ S then x.m else 0):=by show gB ts S i + (match ts[i]? with | some x=>_ | none=>_)=_;rw [hx]
theorem kY {ts:List bY}{S:List Nat}(nn:∀ x∈ts,0<=x.m)(i:Nat):gB ts S i<=gB ts S (i + 1):=by
 show _<=gB ts S i + (match ts[i]? with | some x=>_ | none=>_);cases h:ts[i]? with
 | none=>dsimp only;omega
 | some x=>
  dsimp only;have:=nn x (zB h);split <;> omega
theorem Qg {ts:List bY}{S:List Nat}(nn:∀ x∈ts,0<=x.m):∀ i,0<=gB ts S i
 | 0=>zb _
 | i + 1=>Int.le_trans (Qg nn i) (kY nn i)
theorem oY {ts:List bY}{S:List Nat}(nn:∀ x∈ts,0<=x.m){k:Nat}{x:bY}(hx:ts[k]?=some x)(c:x.h∈S/\x.t ∉ S):∀ i,k < i->x.m<=gB ts S i
 | 0,h=>by omega
 | i + 1,h=>by
  by_cases e:k=i
  ·subst e;rw [sS hx,if_pos c];have:=Qg (S:=S) nn k;omega
  ·exact Int.le_trans (oY nn hx c i (by omega)) (kY nn i)
theorem Nz {ts:List bY}{S:List Nat}(nn:∀ x∈ts,0<=x.m){k l:Nat}{x y:bY}(hx:ts[k]?=some x)(hy:ts[l]?=some y)(kl:k < l)(c:x.h∈S/\x.t ∉ S)(d:y.h∈S/\y.t ∉ S):∀ i,l < i->x.m + y.m<=gB ts S i
 | 0,h=>by omega
 | i + 1,h=>by
  by_cases e:l=i
  ·subst e;rw [sS hy,if_pos d];have:=oY nn hx c l kl;omega
  ·exact Int.le_trans (Nz nn hx hy kl c d i (by omega)) (kY nn i)
theorem Pf {ms:List M4}{W:Nat}:∀ x∈aX ms W,0<=x.m:=by
 intro x hx;unfold aX iF at hx;rcases zW.mp hx with h | h
 ·obtain ⟨y,_,rfl⟩:=zK.mp h;show (0:Int)<=1;decide
 ·obtain ⟨y,_,rfl⟩:=zK.mp h;show (0:Int)<=2;decide
noncomputable def gh (ms:List M4)(W:Nat)(S:List Nat)(j:Nat):Prop:=(j * W + bf ms j∈S/\j * W + W + bg ms j ∉ S)\/(j * W + bg ms j∈S/\j * W + W + bf ms j ∉ S)
theorem Wm {ms:List M4}{W:Nat}{S:List Nat}(h:gB (aX ms W) S (aX ms W).length < 2):(∀ q,q < W * ms.length->q∈S->q + W∈S)/\∀ j l,j < ms.length->l < ms.length->gh ms W S j->gh ms W S l->j=l:=by
 rw [nq] at h;constructor
 ·intro q hq hS;refine Classical.byContradiction λc=>?_;have:=oY (S:=S) Pf (rS (ms:=ms) (W:=W) hq) ⟨hS,c⟩ (2 * ms.length + W * ms.length) (by omega);have this:(2:Int)<=gB (aX ms W) S (2 * ms.length + W * ms.length):=this;omega
 ·intro j l hj hl lj ll;have key:∀ j l,j < ms.length->l < ms.length->gh ms W S j->gh ms W S l->¬ j < l:=λj l hj hl lj ll lt=>by
   obtain ⟨a1,a2⟩:=jm (W:=W) hj;obtain ⟨b1,b2⟩:=jm (W:=W) hl;have fin:∀ {k k':Nat}{x y:bY},(aX ms W)[k]?=some x->(aX ms W)[k']?=some y->k < k'->k' < 2 * ms.length->x.m=1->y.m=1->(x.h∈S/\x.t ∉ S)->(y.h∈S/\y.t ∉ S)->False:=λhx hy kk kn e1 e2 c d=>by
    have:=Nz (S:=S) Pf hx hy kk c d (2 * ms.length + W * ms.length) (by omega);omega
   rcases lj with c | c <;> rcases ll with d | d
   ·exact fin a1 b1 (by omega) (by omega) rfl rfl c d
   ·exact fin a1 b2 (by omega) (by omega) rfl rfl c d
   ·exact fin a2 b1 (by omega) (by omega) rfl rfl c d
   ·exact fin a2 b2 (by omega) (by omega) rfl rfl c d
  have h1:=key j l hj hl lj ll;have h2:=key l j hl hj ll lj;omega
noncomputable def bI (ms:List M4)(n:Nat)(st:Fn):Nat->Fn
 | 0=>st
 | i + 1=>if i=n then bI ms n st i else (match ms[i]? with
  | some m=>aK (aK (bI ms n st i) ⟨m.lo.toNat,m.hi.toNat,m.t⟩) ⟨m.hi.toNat,m.lo.toNat,m.t⟩
  | none=>bI ms n st i)
theorem kX {st:Fn}{w:W3}{v:Nat}(h:aK st w v≠none):st v≠none\/(v=w.o/\st w.g≠none):=by
 unfold aK at h;split at h
 ·rename_i c;by_cases e:v=w.o
  ·refine .inr ⟨e,λz=>?_⟩;rw [z] at c;exact absurd c.2 (by simp [below])
  ·left;intro z;apply h;unfold put;rw [if_neg e];exact z
 ·exact .inl h
theorem Rk {st:Fn}{l h:Nat}{t:Int}{v:Nat}(hv:aK (aK st ⟨l,h,t⟩) ⟨h,l,t⟩ v≠none):st v≠none\/(v=h/\st l≠none)\/(v=l/\st h≠none):=by
 rcases kX hv with h1 | ⟨rfl,h1⟩
 ·rcases kX h1 with h2 | ⟨rfl,h2⟩
  ·exact .inl h2
  ·exact .inr (.inl ⟨rfl,h2⟩)
 ·rcases kX h1 with h2 | ⟨_,h2⟩
  ·exact .inr (.inr ⟨rfl,h2⟩)
  ·exact .inl h2
theorem oQ {s0 g o:Nat}{x t:Int}(h:t<=x):aK (aE s0 x) ⟨g,o,t⟩=aE s0 x:=by
 unfold aK;rw [if_neg];rintro ⟨_,h2⟩;obtain ⟨y,e,lt⟩:=aJ.mp h2;have e:aE s0 x g=some y:=e;unfold aE at e;split at e
 ·cases e;have lt:x < t:=lt;omega
 ·cases e
theorem oK {ms:List M4}{n s0 a:Nat}{x:Int}(early:∀ (j:Nat) m,j < a->ms[j]?=some m->m.t<=x):∀ i,i<=a->bI ms n (aE s0 x) i=aE s0 x
 | 0,_=>rfl
 | i + 1,h=>by
  have ih:=oK (n:=n) (s0:=s0) early i (by omega);show (if i=n then _ else _)=_;rw [ih];split
  ·rfl
  ·split
   ·rename_i m hm;have:=early i m (by omega) hm;rw [oQ this,oQ this]
   ·rfl
theorem kT {ms:List M4}{W n s0 a:Nat}{x:Int}{S:List Nat}(early:∀ (j:Nat) m,j < a->ms[j]?=some m->m.t<=x)(hs:a * W + s0∈S)
  (wait:∀ q,q < W * ms.length->q∈S->q + W∈S) (Zx:∀ j,j < ms.length->j≠n->¬ gh ms W S j) (ins:∀ j,j < ms.length->bf ms j < W/\bg ms j < W):∀ i,a<=i->i<=ms.length->∀ v,v < W->bI ms n (aE s0 x) i v≠none->i * W + v∈S
 | i,ai,iN,v,hv,h=>by
  by_cases e:i=a
  ·subst e;rw [oK early i (zD _)] at h;unfold aE at h;split at h
   ·rename_i c;rw [c];exact hs
   ·exact absurd rfl h
  ·match i,e,ai,iN,h with
   | 0,e,ai,_,_=>omega
   | i + 1,e,ai,iN,h=>
    have ih:=kT early hs wait Zx ins i (by omega) (by omega);have inW:∀ u,u < W->i * W + u < W * ms.length:=λu hu=>by
     have:(i + 1) * W<=ms.length * W:=Nat.mul_le_mul_right _ iN;rw [yV] at this;rw [xb W];omega
    have dX:∀ u,u < W->bI ms n (aE s0 x) i u≠none->(i + 1) * W + u∈S:=λu hu hh=>by
     have:=wait _ (inW u hu) (ih u hu hh);rw [yV,show i * W + W + u=i * W + u + W by omega];exact this
    have h:(if i=n then bI ms n (aE s0 x) i else (match ms[i]? with
     | some m=>aK (aK (bI ms n (aE s0 x) i) ⟨m.lo.toNat,m.hi.toNat,m.t⟩) ⟨m.hi.toNat,m.lo.toNat,m.t⟩
     | none=>bI ms n (aE s0 x) i)) v≠none:=h
    by_cases c:i=n
    ·rw [if_pos c] at h;exact dX v hv h
    ·rw [if_neg c] at h;have nl:=Zx i (by omega) c;cases hm:ms[i]? with
     | none=>rw [hm] at h;exact dX v hv h
     | some m=>
      rw [hm] at h;have el:bf ms i=m.lo.toNat:=by unfold bf;rw [hm];rfl
      have eh:bg ms i=m.hi.toNat:=by unfold bg;rw [hm];rfl
      unfold gh at nl;rw [el,eh] at nl;rcases Rk h with h1 | ⟨rfl,h1⟩ | ⟨rfl,h1⟩
      ·exact dX v hv h1
      ·have b:=(ins i (by omega)).1;rw [el] at b;have:=ih _ b h1;rw [yV];exact Classical.byContradiction λz=>nl (.inl ⟨this,z⟩)
      ·have b:=(ins i (by omega)).2;rw [eh] at b;have:=ih _ b h1;rw [yV];exact Classical.byContradiction λz=>nl (.inr ⟨this,z⟩)
theorem Ni {ms:List M4}{n:Nat}{st:Fn}(hn:ms.length<=n):∀ i,i<=ms.length->bI ms n st i=fwd (ms.take i) st
 | 0,_=>rfl
 | i + 1,h=>by
  have ih:=Ni (st:=st) hn i (by omega);have e:ms[i]?=some ms[i]:=zO (by omega);show (if i=n then _ else _)=_;rw [if_neg (by omega),ih,xX,f6,e];rfl
theorem kR {ms:List M4}{n:Nat}{st:Fn}(hn:n < ms.length):∀ i,i<=ms.length->bI ms n st i=fwd ((ms.take i).eraseIdx n) st
 | 0,_=>rfl
 | i + 1,h=>by
  have ih:=kR (st:=st) hn i (by omega);have e:ms[i]?=some ms[i]:=zO (by omega);have li:(ms.take i).length=i:=by rw [zV];omega
  show (if i=n then _ else _)=_;rw [ih,xX,e];by_cases c:i=n
  ·subst c;rw [if_pos rfl,List.eraseIdx_append_of_length_le (by omega),li,xF,yI (by omega)];show _=fwd (ms.take i++[]) st;rw [zy]
  ·rw [if_neg c];by_cases d:i < n
   ·rw [yI (by omega),yI (by rw [zG,li];show i + 1<=n;omega),f6];rfl
   ·rw [List.eraseIdx_append_of_lt_length (by omega),f6];rfl
theorem Ql {ms:List M4}{W s0 w0 a z:Nat}{x:Int}{S:List Nat}{tot:Int}(early:∀ (j:Nat) m,j < a->ms[j]?=some m->m.t<=x)(ins:∀ j,j < ms.length->bf ms j < W/\bg ms j < W)(az:a<=z)(zN:z<=ms.length)(hw:w0 < W)(hs:a * W + s0∈S)(hg:z * W + w0 ∉ S)(ct:gB (aX ms W) S (aX ms W).length=tot)
  (all:fwd (ms.take z) (aE s0 x) w0≠none) (each:∀ n,n < z->fwd ((ms.take z).eraseIdx n) (aE s0 x) w0≠none):2<=tot:=by
 refine Classical.byContradiction λc=>?_;obtain ⟨wait,one⟩:=Wm (ms:=ms) (W:=W) (S:=S) (by omega);by_cases ex:∃ n,n < ms.length/\gh ms W S n
 ·obtain ⟨n,hn,ln⟩:=ex;have h:=kT (n:=n) early hs wait (λj hj ne lj=>ne (one j n hj hn lj ln)) ins z az zN w0 hw;rw [kR hn z zN] at h;by_cases d:n < z
  ·exact hg (h (each n d))
  ·rw [yI (by rw [zV];omega)] at h;exact hg (h all)
 ·have h:=kT (n:=ms.length) early hs wait (λj hj _ lj=>ex ⟨j,hj,lj⟩) ins z az zN w0 hw;rw [Ni (zD _) z zN] at h;exact hg (h all)
theorem UP {m:M4}{x:W3}(h:x∈two m):x.t=m.t:=by
 unfold two at h;rcases zH.mp h with rfl | h
 ·rfl
 ·cases zJ.mp h;rfl
theorem gX:∀ {ms:List M4}{t:Int},(ms.Pairwise λa b=>a.t<=b.t)->∀ {j:Nat}{m:M4},ms[j]?=some m->(j < cnt ms t↔m.t<=t)
 | [],t,_,j,m,h=>by simp at h
 | a::ms,t,o,j,m,h=>by
  have o:=yd.mp o;by_cases c:a.t<=t
  ·have e:cnt (a::ms) t=cnt ms t + 1:=by unfold cnt;rw [List.filter_cons,if_pos (by simp [c])];rfl
   rw [e];cases j with
   | zero=>cases h;exact ⟨λ_=>c,λ_=>by omega⟩
   | succ j=>rw [<-gX (t:=t) o.2 (j:=j) h];omega
  ·have e:cnt (a::ms) t=0:=by
    unfold cnt;rw [List.filter_cons,if_neg (by simp [c]),List.filter_eq_nil_iff.mpr (λm hm=>by have:=o.1 m hm;simp;omega)];rfl
   rw [e];have:a.t<=m.t:=by
    cases j with
    | zero=>cases h;exact zb _
    | succ j=>exact o.1 m (zB h)
   omega
theorem gY (ms:List M4)(t:Int):cnt ms t<=ms.length:=List.length_filter_le _ _
theorem NF {ms:List M4}(o:ms.Pairwise λa b=>a.t<=b.t){x z:Int}(h:x<=z):cnt ms x<=cnt ms z:=by refine Classical.byContradiction λc=>?_;have l:=gY ms x;have e:ms[cnt ms z]?=some ms[cnt ms z]:=zO (by omega);have h1:=(gX (t:=x) o e).mp (by omega);have h2:=(gX (t:=z) o e).mpr (by omega);omega
theorem NG {ms:List M4}(o:ms.Pairwise λa b=>a.t<=b.t){z:Int}:∀ m∈ms.drop (cnt ms z),z < m.t:=λm hm=>by
 obtain ⟨j,hj⟩:=z6 hm;rw [List.getElem?_drop] at hj;have:=(gX (t:=z) o hj);omega
theorem oS {z:Int}:∀ {ws:List W3}{st:Fn},(∀ x∈ws,z < x.t)->∀ {i:Nat}{y:Int},ws.foldl aK st i=some y->st i=some y\/z < y
 | [],st,_,i,y,h=>.inl h
 | x::ws,st,hx,i,y,h=>by
  rcases oS (ws:=ws) (st:=aK st x) (λx' h'=>hx x' (.tail _ h')) h with h1 | h1
  ·unfold aK at h1;split at h1
   ·unfold put at h1;split at h1
    ·cases h1;exact .inr (hx x (.head _))
    ·exact .inl h1
   ·exact .inl h1
  ·exact .inr h1
theorem Nm {A B:List M4}{st:Fn}{w:Nat}{z:Int}(hB:∀ m∈B,z < m.t)(h:aY (fwd (A++B) st w) z=true):fwd A st w≠none:=by
 obtain ⟨y,hy,le⟩:=aL.mp h;rw [f6] at hy;rcases oS (λx hx=>by
  obtain ⟨m,hm,hx⟩:=ye.mp hx;rw [UP hx];exact hB m hm) hy with h1 | h1
 ·rw [h1];exact λz=>nomatch z
 ·omega
theorem kU {ms:List M4}{n v:Nat}{st:Fn}{y:Int}{i:Nat}(h:bI ms n st i v=some y):∀ k,bI ms n st (i + k) v=some y
 | 0=>h
 | k + 1=>by
  have ih:=kU h k;show (if i + k=n then bI ms n st (i + k) else (match ms[i + k]? with
   | some m=>aK (aK (bI ms n st (i + k)) ⟨m.lo.toNat,m.hi.toNat,m.t⟩) ⟨m.hi.toNat,m.lo.toNat,m.t⟩
   | none=>bI ms n st (i + k))) v=_
  split
  ·exact ih
  ·cases ms[i + k]? with
   | some m=>exact qW (qW ih)
   | none=>exact ih
theorem sM {st:Fn}{x:W3}{v:Nat}{y:Int}(h:aK st x v=some y):st v=some y\/y=x.t:=by
 unfold aK at h;split at h
 ·unfold put at h;split at h
  ·cases h;exact .inr rfl
  ·exact .inl h
 ·exact .inl h
theorem Nh {ms:List M4}{n:Nat}{st:Fn}{v:Nat}{y:Int}:∀ {i},bI ms n st i v=some y->st v=some y\/∃ (j:Nat) (m:M4),j < i/\ms[j]?=some m/\m.t=y
 | 0,h=>.inl h
 | i + 1,h=>by
  have up:bI ms n st i v=some y->st v=some y\/∃ (j:Nat) (m:M4),j < i + 1/\ms[j]?=some m/\m.t=y:=λh=>by
   rcases Nh h with h | ⟨j,m,lt,h1,h2⟩
   ·exact .inl h
   ·exact .inr ⟨j,m,by omega,h1,h2⟩
  have h:(if i=n then bI ms n st i else (match ms[i]? with
   | some m=>aK (aK (bI ms n st i) ⟨m.lo.toNat,m.hi.toNat,m.t⟩) ⟨m.hi.toNat,m.lo.toNat,m.t⟩
   | none=>bI ms n st i)) v=some y:=h
  split at h
  ·exact up h
  ·cases hm:ms[i]? with
   | none=>rw [hm] at h;exact up h
   | some m=>
    rw [hm] at h;rcases sM h with h | h
    ·rcases sM h with h | h
     ·exact up h
     ·exact .inr ⟨i,m,by omega,hm,h.symm⟩
    ·exact .inr ⟨i,m,by omega,hm,h.symm⟩
theorem Nn {st:Fn}{x:W3}{y:Int}(h:st x.g=some y)(lt:y < x.t):aK st x x.o≠none:=by
 unfold aK;by_cases c:st x.o=none
 ·rw [if_pos ⟨c,aJ.mpr ⟨y,h,lt⟩⟩,wo];exact λz=>nomatch z
 ·rw [if_neg (λz=>c z.1)];exact c
theorem Rl {st:Fn}{x:W3}{v:Nat}(h:st v≠none):aK st x v≠none:=by
 cases e:st v with
 | none=>exact absurd e h
 | some y=>rw [qW e];exact λz=>nomatch z
theorem ir {ms:List M4}:∀ {ns:List Int}{v w:Nat}{t A e:Int},aR ms v t A ns=some (w,e)->t<=e
 | [],v,w,t,A,e,h=>by
  unfold aR at h;cases h;exact zb _
 | n::ns,v,w,t,A,e,h=>by
  obtain ⟨m,_,_,_,_,lt,wk⟩:=wx h;have:=ir wk;omega
theorem rL {W:Nat}{ms:List M4}(gd:Good W ms){n s0:Nat}{x z:Int}{w:Nat}{e:Int}(le:e<=z):∀ {ns:List Int}{v:Nat}{t A:Int},aR ms v t A ns=some (w,e)->((n:Int) ∉ ns)->x<=t->-1<=A->A + 1<=cnt ms z->(∃ y,y<=t/\bI ms n (aE s0 x) (A + 1).toNat v=some y)->bI ms n (aE s0 x) (cnt ms z) w≠none
 | [],v,t,A,h,_,_,A1,Az,⟨y,_,hy⟩=>by
  unfold aR at h;cases h;have:=kU hy (cnt ms z - (A + 1).toNat);rw [show (A + 1).toNat + (cnt ms z - (A + 1).toNat)=cnt ms z by omega] at this;rw [this];exact λz=>nomatch z
 | k::ns,v,t,A,h,nn,xt,A1,Az,⟨y,yt,hy⟩=>by
  obtain ⟨m,hm,Ak,k0,hv,lt,wk⟩:=wx h;obtain ⟨k,rfl⟩:=zm k0;rw [zk] at hm;have me:=ir wk;have kz:=(gX (t:=z) gd.ord.2 hm).mpr (by omega);have nk:¬ k=n:=λe=>nn (by rw [e];exact .head _);have Zg:=kU hy (k - (A + 1).toNat);rw [show (A + 1).toNat + (k - (A + 1).toNat)=k by omega] at Zg;have hk:bI ms n (aE s0 x) (k + 1)=aK (aK (bI ms n (aE s0 x) k) ⟨m.lo.toNat,m.hi.toNat,m.t⟩) ⟨m.hi.toNat,m.lo.toNat,m.t⟩:=by
   show (if k=n then _ else _)=_;rw [if_neg nk,hm]
  have got:bI ms n (aE s0 x) (k + 1) (if v=m.lo.toNat then m.hi.toNat else m.lo.toNat)≠none:=by
   rw [hk];by_cases c:v=m.lo.toNat
   ·rw [if_pos c];rw [c] at Zg;exact Rl (Nn (x:=⟨m.lo.toNat,m.hi.toNat,m.t⟩) Zg (by show y < m.t;omega))
   ·rw [if_neg c];obtain rfl:v=m.hi.toNat:=hv.resolve_left c;exact Nn (x:=⟨m.hi.toNat,m.lo.toNat,m.t⟩) (qW Zg) (by show y < m.t;omega)
  refine rL gd le wk (λz=>nn (.tail _ z)) (by omega) (by omega) (by omega) ?_;rw [show ((k:Int) + 1).toNat=k + 1 by omega];cases ey:bI ms n (aE s0 x) (k + 1) (if v=m.lo.toNat then m.hi.toNat else m.lo.toNat) with
  | none=>exact absurd ey got
  | some y'=>
   refine ⟨y',?_,rfl⟩;rcases Nh ey with h1 | ⟨j,m',jk,gG,rfl⟩
   ·have:∀ u,aE s0 x u=some y'->y'=x:=λu h=>by
     unfold aE at h;split at h
     ·exact (Option.some.inj h).symm
     ·cases h
    have:=this _ h1;omega
   ·by_cases c:j=k
    ·subst c;rw [hm] at gG;cases gG;exact zb _
    ·obtain ⟨l1,e1⟩:=zC.mp gG;obtain ⟨l2,e2⟩:=zC.mp hm;have:=zl.mp gd.ord.2 j k l1 l2 (by omega);rw [e1,e2] at this;exact this
theorem YN {W:Nat}{ms:List M4}(gd:Good W ms){s0 w0:Nat}{x z e:Int}{ns:List Int}(wk:aR ms s0 x (-1) ns=some (w0,e))(le:e<=z)(hn:∀ n:Nat,(n:Int)∈ns->aY (fwd (ms.eraseIdx n) (aE s0 x) w0) z=true):fwd (ms.take (cnt ms z)) (aE s0 x) w0≠none/\∀ n,n < cnt ms z->fwd ((ms.take (cnt ms z)).eraseIdx n) (aE s0 x) w0≠none:=by
 have cl:=gY ms z;constructor
 ·have:=fP gd wk;obtain ⟨y,hy,l⟩:=aL.mp this;exact Nm (B:=ms.drop (cnt ms z)) (z:=z) (NG gd.ord.2) (by rw [List.take_append_drop];exact aL.mpr ⟨y,hy,by omega⟩)
 ·intro n VY;by_cases c:(n:Int)∈ns
  ·refine Nm (B:=ms.drop (cnt ms z)) (z:=z) (NG gd.ord.2) ?_;rw [<-List.eraseIdx_append_of_lt_length (by rw [zV];omega),List.take_append_drop];exact hn n c
  ·rw [<-kR (by omega) _ cl];exact rL gd le wk c (zb _) (by omega) (by omega) ⟨x,zb _,by show aE s0 x s0=some x;unfold aE;rw [if_pos rfl]⟩
noncomputable def aS (lo hi:Nat->Nat)(g:Nat->Option Nat)(a s0:Nat):Nat->List Int×Nat
 | 0=>([],s0)
 | k + 1=>if g (a + k)=some (aS lo hi g a s0 k).2 then ((aS lo hi g a s0 k).1++[((a + k:Nat):Int)],cS lo hi g (a + k) (aS lo hi g a s0 k).2) else aS lo hi g a s0 k
section
variable {lo hi:Nat->Nat}{g:Nat->Option Nat} {a s0:Nat}
theorem jy {k:Nat}(h:g (a + k)=some (aS lo hi g a s0 k).2):aS lo hi g a s0 (k + 1)=((aS lo hi g a s0 k).1++[((a + k:Nat):Int)],cS lo hi g (a + k) (aS lo hi g a s0 k).2):=by show (if _ then _ else _)=_;rw [if_pos h]
theorem nJ {k:Nat}(h:¬ g (a + k)=some (aS lo hi g a s0 k).2):aS lo hi g a s0 (k + 1)=aS lo hi g a s0 k:=by show (if _ then _ else _)=_;rw [if_neg h]
theorem SD (k:Nat):(aS lo hi g a s0 (k + 1)).2=cS lo hi g (a + k) (aS lo hi g a s0 k).2:=by
 by_cases h:g (a + k)=some (aS lo hi g a s0 k).2
 ·rw [jy h]
 ·rw [nJ h];unfold cS;rw [if_neg h]
theorem jz {n:Int}:∀ {K:Nat},n∈(aS lo hi g a s0 K).1↔∃ k,k < K/\n=((a + k:Nat):Int)/\g (a + k)=some (aS lo hi g a s0 k).2
 | 0=>by
  constructor
  ·intro h;cases h
  ·rintro ⟨_,h,_⟩;omega
 | K + 1=>by
  by_cases h:g (a + K)=some (aS lo hi g a s0 K).2
  ·rw [jy h];show n∈_++_↔_;rw [zW,jz,zJ];constructor
   ·rintro (⟨k,l,e,z⟩ | rfl)
    ·exact ⟨k,by omega,e,z⟩
    ·exact ⟨K,by omega,rfl,h⟩
   ·rintro ⟨k,l,e,z⟩;by_cases c:k=K
    ·subst c;exact .inr e
    ·exact .inl ⟨k,by omega,e,z⟩
  ·rw [nJ h,jz];constructor
   ·rintro ⟨k,l,e,z⟩;exact ⟨k,by omega,e,z⟩
   ·rintro ⟨k,l,e,z⟩;by_cases c:k=K
    ·subst c;exact absurd z h
    ·exact ⟨k,by omega,e,z⟩
theorem rV:∀ {K:Nat},(aS lo hi g a s0 K).1.length<=K
 | 0=>zD _
 | K + 1=>by
  have:=rV (K:=K);by_cases h:g (a + K)=some (aS lo hi g a s0 K).2
  ·rw [jy h];show ((aS lo hi g a s0 K).1++[((a + K:Nat):Int)]).length<=_;rw [zG];show _ + 1<=_;omega
  ·rw [nJ h];omega
noncomputable def cJ (g:Nat->Option Nat)(c:List Int)(i:Nat):Option Nat:=if (i:Int)∈c then none else g i
theorem Vm {K k:Nat}(hk:k < K):(aS lo hi (cJ g (aS lo hi g a s0 K).1) a s0 (k + 1)).2=if g (a + k)=some (aS lo hi g a s0 k).2 then (aS lo hi (cJ g (aS lo hi g a s0 K).1) a s0 k).2 else cS lo hi g (a + k) (aS lo hi (cJ g (aS lo hi g a s0 K).1) a s0 k).2:=by
 rw [SD];by_cases h:g (a + k)=some (aS lo hi g a s0 k).2
 ·rw [if_pos h];have:((a + k:Nat):Int)∈(aS lo hi g a s0 K).1:=jz.mpr ⟨k,hk,rfl,h⟩;unfold cS;rw [if_neg];unfold cJ;rw [if_pos this];exact λz=>nomatch z
 ·rw [if_neg h];have:((a + k:Nat):Int) ∉ (aS lo hi g a s0 K).1:=λz=>by
   obtain ⟨k',_,e,z⟩:=jz.mp z;obtain rfl:k=k':=by omega
   exact h z
  have e:cJ g (aS lo hi g a s0 K).1 (a + k)=g (a + k):=by unfold cJ;rw [if_neg this]
  unfold cS;rw [e]
end
theorem SA {N W:Nat}{lo hi:Nat->Nat}{wait:Nat->Nat->Int}{th bk:Nat->Int}{g:Nat->Option Nat}{j4 out:Nat->Nat->Int}{tot:Int}{a z s0 w0:Nat}(L:Lay N W lo hi wait th bk g j4 out tot a z s0 w0)(az:a<=z)(zN:z<=N)(hs:s0 < W)(two:2<=j4 a s0):(aS lo hi g a s0 (z - a)).2=w0/\(aS lo hi (cJ g (aS lo hi g a s0 (z - a)).1) a s0 (z - a)).2=w0:=by
 have go:∀ k,k<=z - a->Qj j4 W (a + k) (aS lo hi g a s0 k).2 (aS lo hi (cJ g (aS lo hi g a s0 (z - a)).1) a s0 k).2:=by
  intro k;induction k with
  | zero=>exact λ_=>⟨hs,hs,.inl ⟨rfl,two⟩⟩
  | succ k ih=>
   intro hk;have:=L.two (by omega) (by omega) (ih (by omega));rw [Vm (by omega),SD];exact this
 have e:=go (z - a) (zD _);rw [show a + (z - a)=z by omega] at e;exact L.ends zN e
theorem vE {W:Nat}{ms:List M4}(gd:Good W ms){x:Int}{s0:Nat}{g:Nat->Option Nat}(hg:∀ i v,i < ms.length->g i=some v->v=bf ms i\/v=bg ms i):∀ k,cnt ms x + k<=ms.length ->
  ∃ t,aR ms s0 x (-1) (aS (bf ms) (bg ms) g (cnt ms x) s0 k).1=some ((aS (bf ms) (bg ms) g (cnt ms x) s0 k).2,t)/\(((aS (bf ms) (bg ms) g (cnt ms x) s0 k).2=s0/\t=x)\/∃ (j:Nat) (m:M4),j < cnt ms x + k/\ms[j]?=some m/\m.t=t/\((aS (bf ms) (bg ms) g (cnt ms x) s0 k).2=m.lo.toNat\/(aS (bf ms) (bg ms) g (cnt ms x) s0 k).2=m.hi.toNat))
 | 0,_=>⟨x,rfl,.inl ⟨rfl,rfl⟩⟩
 | k + 1,hk=>by
  obtain ⟨t,wk,st⟩:=vE (x:=x) (s0:=s0) gd hg k (by omega);by_cases h:g (cnt ms x + k)=some (aS (bf ms) (bg ms) g (cnt ms x) s0 k).2
  ·have hm:ms[cnt ms x + k]?=some ms[cnt ms x + k]:=zO (by omega);generalize ms[cnt ms x + k]=m at hm;have el:bf ms (cnt ms x + k)=m.lo.toNat:=by unfold bf;rw [hm];rfl
   have eh:bg ms (cnt ms x + k)=m.hi.toNat:=by unfold bg;rw [hm];rfl
   have hv:=hg _ _ (by omega) h;rw [el,eh] at hv;rw [jy h];generalize aS (bf ms) (bg ms) g (cnt ms x) s0 k=r at *;have lt:t < m.t:=by
    rcases st with ⟨_,tx⟩ | ⟨j,m',lj,gG,rfl,WN⟩
    ·have:=(gX (t:=x) gd.ord.2 hm);omega
    ·obtain ⟨l1,e1⟩:=zC.mp gG;obtain ⟨l2,e2⟩:=zC.mp hm;have:=zl.mp gd.order j (cnt ms x + k) l1 l2 (by omega);rw [e1,e2] at this;rcases this with h | ⟨_,_,ap⟩
     ·exact h
     ·obtain ⟨a1,a2,a3,a4⟩:=ap;obtain ⟨b1,b2,_⟩:=gd.each m (zB hm);obtain ⟨c1,c2,_⟩:=gd.each m' (zB gG);omega
   have mv:cS (bf ms) (bg ms) g (cnt ms x + k) r.2=Ze r.2 m:=by
    unfold cS Ze;rw [if_pos h,el,eh]
   rw [mv];refine ⟨m.t,rJ gd hm wk (.inl rfl) hv lt,.inr ⟨_,m,by omega,hm,rfl,?_⟩⟩;show Ze r.2 m=_\/Ze r.2 m=_;unfold Ze;split
   ·exact .inr rfl
   ·exact .inl rfl
  ·rw [nJ h];refine ⟨t,wk,?_⟩;rcases st with st | ⟨j,m,h1,h2⟩
   ·exact .inl st
   ·exact .inr ⟨j,m,by omega,h2⟩
theorem rW {W:Nat}{ms:List M4}(gd:Good W ms){x z:Int}{s0 w0:Nat}{g:Nat->Option Nat}(hg:∀ i v,i < ms.length->g i=some v->v=bf ms i\/v=bg ms i)(xz:x<=z)(hw:(aS (bf ms) (bg ms) g (cnt ms x) s0 (cnt ms z - cnt ms x)).2=w0):∃ e,e<=z/\aR ms s0 x (-1) (aS (bf ms) (bg ms) g (cnt ms x) s0 (cnt ms z - cnt ms x)).1=some (w0,e):=by
 have c1:=NF gd.ord.2 xz;have c2:=gY ms z;obtain ⟨t,wk,st⟩:=vE gd (x:=x) (s0:=s0) hg (cnt ms z - cnt ms x) (by omega);rw [hw] at wk;refine ⟨t,?_,wk⟩;rcases st with ⟨_,rfl⟩ | ⟨j,m,lj,hm,rfl,_⟩
 ·exact xz
 ·exact (gX (t:=z) gd.ord.2 hm).mp (by omega)
theorem uB {ms:List M4}{sp:List Int}(i v:Nat)(h:cu ms sp i=some v):v=bf ms i\/v=bg ms i:=by
 unfold cu at h;split at h
 ·cases h
 ·split at h
  ·cases h;exact .inl rfl
  ·cases h;exact .inr rfl
theorem tO {W:Nat}{ms:List M4}(gd:Good W ms){s0 w0:Nat}{x z e tot:Int}{ns:List Int}{sp:List Int}{S:List Nat}(hs:s0 < W)(hw:w0 < W)(ne:s0≠w0)(wk:aR ms s0 x (-1) ns=some (w0,e))(le:e<=z)(hn:∀ n:Nat,(n:Int)∈ns->aY (fwd (ms.eraseIdx n) (aE s0 x) w0) z=true)
  (so:Sound (aX ms W) sp) (nt:∀ p,fj (aX ms W) sp p (aX ms W).length=tot * ((if cnt ms z * W + w0=p then 1 else 0) - (if cnt ms x * W + s0=p then 1 else 0))) (nd:S.Nodup) (cl:∀ p∈S,bX (aX ms W) sp S p) (h0:cnt ms x * W + s0∈S) (hg:cnt ms z * W + w0 ∉ S) :
  (∃ e1,e1<=z/\aR ms s0 x (-1) (aS (bf ms) (bg ms) (cu ms sp) (cnt ms x) s0 (cnt ms z - cnt ms x)).1=some (w0,e1)) /\
  (∃ e2,e2<=z/\aR ms s0 x (-1) (aS (bf ms) (bg ms) (cJ (cu ms sp) (aS (bf ms) (bg ms) (cu ms sp) (cnt ms x) s0 (cnt ms z - cnt ms x)).1) (cnt ms x) s0 (cnt ms z - cnt ms x)).1=some (w0,e2)) /\
  ∀ n∈(aS (bf ms) (bg ms) (cu ms sp) (cnt ms x) s0 (cnt ms z - cnt ms x)).1,n ∉ (aS (bf ms) (bg ms) (cJ (cu ms sp) (aS (bf ms) (bg ms) (cu ms sp) (cnt ms x) s0 (cnt ms z - cnt ms x)).1) (cnt ms x) s0 (cnt ms z - cnt ms x)).1:=by
 have xe:=ir wk;have c1:=NF gd.ord.2 (show x<=z by omega);have c2:=gY ms z;have ins:∀ j,j < ms.length->bf ms j≠bg ms j/\bf ms j < W/\bg ms j < W:=λj hj=>by
  have e:ms[j]?=some ms[j]:=zO hj;obtain ⟨b1,b2,b3,_⟩:=gd.each ms[j] (zx hj);have el:bf ms j=ms[j].lo.toNat:=by unfold bf;rw [e];rfl
  have eh:bg ms j=ms[j].hi.toNat:=by unfold bg;rw [e];rfl
  rw [el,eh];omega
 obtain ⟨all,each⟩:=YN gd wk le hn;have ct:=Wk so nd cl h0 hg nt;have t2:2<=tot:=Ql (x:=x) (λj m hj hm=>(gX (t:=x) gd.ord.2 hm).mp hj) (λj hj=>(ins j hj).2) c1 c2 hw h0 hg ct all each;have L:=aag (tot:=tot) so (by omega) ins hs hw nt;obtain ⟨w1,w2⟩:=SA L c1 c2 hs (by
  show 2<=sL ms W sp (cnt ms x) s0 + tot * (if cnt ms x=cnt ms x/\s0=s0 then 1 else 0);rw [if_pos ⟨rfl,rfl⟩];have:0<=sL ms W sp (cnt ms x) s0:=by
   cases cnt ms x with
   | zero=>exact zb _
   | succ i=>
    show 0<=mT ms W sp i s0 + (if s0=bg ms i then gM sp i else 0) + (if s0=bf ms i then ia sp i else 0);have p1:0<=mT ms W sp i s0:=uW so _;have p2:0<=gM sp i:=uW so _;have p3:0<=ia sp i:=uW so _;split <;> split <;> omega
  omega)
 refine ⟨rW gd (λi v _=>uB i v) (by omega) w1,rW gd (λi v _ h=>?_) (by omega) w2,λn h1 h2=>?_⟩
 ·unfold cJ at h;split at h
  ·cases h
  ·exact uB i v h
 ·obtain ⟨k,_,rfl,h⟩:=jz.mp h2;unfold cJ at h;rw [if_pos h1] at h;cases h
def oG (o:Option Nat):V:=oV (o.map λv=>(v:Int))
noncomputable def OU (n:Nat)(g:Nat->Option Nat):List V:=(List.range n).map λi=>oG (g i)
theorem OT {n i:Nat}{g:Nat->Option Nat}(h:i < n):(OU n g)[i]?=some (oG (g i)):=by unfold OU;rw [zS,xL h];rfl
theorem jM {n:Nat}{g:Nat->Option Nat}:(OU n g).length=n:=by unfold OU;rw [zA,yK]
theorem oM {n:Nat}{g:Nat->Option Nat}:OU (n + 1) g=OU n g++[oG (g n)]:=by unfold OU;rw [yj,zE];rfl
noncomputable def Qy:Sp:=λvs H Q _=>∃ t l,∃ m:M4,∃ th bk:Int,vs=[.ref t,.ref l]/\H t=some (.tup m.vs)/\H l=some (.lst [.int th,.int bk])/\0<=m.lo/\0<=m.hi/\Q (oG (if th=bk then none else if bk < th then some m.lo.toNat else some m.hi.toNat)) H
structure Uq (ms:List M4) (W s w:Nat) (a z:Int) (sp:List Int) (tot:Int) (S:List Nat):Prop where
 so:Sound (aX ms W) sp
 nt:∀ p,fj (aX ms W) sp p (aX ms W).length=tot * ((if cnt ms z * W + w=p then 1 else 0) - (if cnt ms a * W + s=p then 1 else 0))
 nd:S.Nodup
 cl:∀ p∈S,bX (aX ms W) sp S p
 h0:cnt ms a * W + s∈S
 hg:cnt ms z * W + w ∉ S
noncomputable def Sn (C:Addr):Sp:=λvs H Q _=>∃ b lt,∃ s w:Nat,∃ a z aa tr tm ps,vs=[.ref b,.ref lt]/\aO H b aa tr tm ps/\1<=aa.length/\aa.length<=12/\Good aa.length (ps.map (·.2))/\cQ H lt aa.length s w a z/\s≠w /\
 ∀ l sp tot S H',aG H H'->H l=none->H' l=some (.lst (OU ps.length (cu (ps.map (·.2)) sp)))->Uq (ps.map (·.2)) aa.length s w a z sp tot S->Q (.ref l) H'
noncomputable def Qz:Sp:=λvs H Q _=>∃ b lt lg,∃ s w:Nat,∃ a z aa tr tm ps g,vs=[.ref b,.ref lt,.ref lg]/\aO H b aa tr tm ps/\aa.length<=1000/\Good aa.length (ps.map (·.2))/\cQ H lt aa.length s w a z/\H lg=some (.lst (OU ps.length g))/\(∀ i v,i < ps.length->g i=some v->v=bf (ps.map (·.2)) i\/v=bg (ps.map (·.2)) i) /\
 ∀ l H',aG H H'->H l=none->H' l=some (.lst (List.map V.int (aS (bf (ps.map (·.2))) (bg (ps.map (·.2))) g (cnt (ps.map (·.2)) a) s (cnt (ps.map (·.2)) z - cnt (ps.map (·.2)) a)).1))->Q (.ref l) H'
structure gg (F:Addr->Prop) (H:Hp) (ms:List M4) (s w:Nat) (a z:Int) (l1 l2:Addr) (c1 c2:List Int):Prop where
 ne:l1≠l2
 f1:F l1
 f2:F l2
 h1:H l1=some (.lst (List.map V.int c1))
 h2:H l2=some (.lst (List.map V.int c2))
 w1:∃ e,e<=z/\aR ms s a (-1) c1=some (w,e)
 w2:∃ e,e<=z/\aR ms s a (-1) c2=some (w,e)
 dj:∀ n∈c1,n ∉ c2
noncomputable def U3 (C:Addr):Sp:=λvs H Q _=>∃ b lt,∃ s w:Nat,∃ a z aa tr tm ps e ns,vs=[.ref b,.ref lt]/\aO H b aa tr tm ps/\1<=aa.length/\aa.length<=12/\Good aa.length (ps.map (·.2))/\cQ H lt aa.length s w a z/\s≠w/\aR (ps.map (·.2)) s a (-1) ns=some (w,e)/\e<=z/\(∀ n:Nat,(n:Int)∈ns->aY (fwd ((ps.map (·.2)).eraseIdx n) (aE s a) w) z=true) /\
 ∀ t l1 l2 c1 c2 H',aG H H'->H' t=some (.tup [.ref l1,.ref l2])->gg (λl=>H l=none) H' (ps.map (·.2)) s w a z l1 l2 c1 c2->Q (.ref t) H'
noncomputable def u5 (F:Addr->Prop)(H:Hp)(n:Nat)(ms:List M4)(s w:Nat)(a z:Int)(t:Addr):Prop:=
 (aY (fwd ms (aE s a) w) z=false/\∃ l,H t=some (.tup [.str "none", .ref l])/\F l/\H l=some (.lst ((rep n (fwd ms (aE s a))).map oV))) \/
 (aY (fwd ms (aE s a) w) z=true/\∃ (k:Nat) (l:Addr),k < ms.length/\aY (fwd (ms.eraseIdx k) (aE s a) w) z=false/\H t=some (.tup [.str "one", .int (k:Int),.ref l])/\F l/\H l=some (.lst ((rep n (fwd (ms.eraseIdx k) (aE s a))).map oV))) \/
 (∃ l1 l2 c1 c2,H t=some (.tup [.str "two", .ref l1,.ref l2])/\gg F H ms s w a z l1 l2 c1 c2)
noncomputable def Sg (T:Addr)(lp:Pos):Sp:=λvs H Q _=>∃ b lt,∃ s w:Nat,∃ a z aa tr tm ps,vs=[.ref b,.ref lt]/\aO H b aa tr tm ps/\1<=aa.length/\aa.length<=12/\(∀ r∈aa,(0:Int)<=r/\r<=99)/\Good aa.length (ps.map (·.2))/\cQ H lt aa.length s w a z/\MT T lp kN H /\
 ∀ t H',cL T H H'->MT T lp kN H'->u5 (λl=>H l=none) H' aa.length (ps.map (·.2)) s w a z t->Q (.ref t) H'
theorem MT.free {T:Addr}{lp:Pos}{q:Str}{H H1:Hp}(QV:MT T lp q H1)(b:cL T H H1){l:Addr}(h:H1 l=none):H l=none:=by
 cases e:H l with
 | none=>rfl
 | some o=>
  by_cases z:l=T
  ·rcases QV with m | ⟨_,m,_⟩ <;> (rw [<-z,h] at m;cases m)
  ·rw [b _ _ z e] at h;cases h
theorem gg.same {F:Addr->Prop}{H H':Hp}{ms:List M4}{s w:Nat}{a z:Int}{l1 l2:Addr}{c1 c2:List Int}(p:gg F H ms s w a z l1 l2 c1 c2)(e:aG H H'):gg F H' ms s w a z l1 l2 c1 c2:=⟨p.ne,p.f1,p.f2,e _ _ p.h1,e _ _ p.h2,p.w1,p.w2,p.dj⟩
theorem gg.to {F F':Addr->Prop}{H:Hp}{ms:List M4}{s w:Nat}{a z:Int}{l1 l2:Addr}{c1 c2:List Int}(p:gg F H ms s w a z l1 l2 c1 c2)(e:∀ l,F l->F' l):gg F' H ms s w a z l1 l2 c1 c2:=⟨p.ne,e _ p.f1,e _ p.f2,p.h1,p.h2,p.w1,p.w2,p.dj⟩
theorem Qm {F:Addr->Prop}{H:Hp}{ms:List M4}{s w:Nat}{a z:Int}{l1 l2:Addr}(e:s=w)(az:a<=z)(ne:l1≠l2)(f1:F l1)(f2:F l2)(h1:H l1=some (.lst []))(h2:H l2=some (.lst [])):gg F H ms s w a z l1 l2 [] []:=
 ⟨ne,f1,f2,h1,h2,⟨a,az,by rw [e];rfl⟩,⟨a,az,by rw [e];rfl⟩,λ_ h=>nomatch h⟩
theorem Qs {ms:List M4}{W q:Nat}:iF ms W ms.length++(List.range (q + 1)).map (λq=>(⟨q,q + W,2⟩:bY))=(iF ms W ms.length++(List.range q).map λq=>(⟨q,q + W,2⟩:bY))++[⟨q,q + W,2⟩]:=by rw [yj,zE,xD];rfl
theorem VC {C:Addr}{H:Hp}{x dx lA lE lS:Addr}{as:List Addr}{src:Int}{n:Nat}{ts:List bY}{sp:List Int}(a:mG C H x dx lA lE lS as src n ts sp):∀ b∈x::lA::lE::lS::as,∀ xs,H b≠some (.tup xs):=by
 intro b hb xs e;rcases zH.mp hb with rfl | hb
 ·rw [a.raw.ins] at e;cases e
 rcases zH.mp hb with rfl | hb
 ·rw [a.raw.mE] at e;cases e
 rcases zH.mp hb with rfl | hb
 ·rw [a.raw.ends] at e;cases e
 rcases zH.mp hb with rfl | hb
 ·rw [a.raw.i6] at e;cases e
 obtain ⟨i,hi⟩:=z6 hb;rw [a.raw.rws i _ hi] at e;cases e
theorem mG.Xn {C:Addr}{H H':Hp}{x dx lA lE lS:Addr}{as:List Addr}{src:Int}{n:Nat}{ts:List bY}{sp:List Int}{M:List Addr}(a:mG C H x dx lA lE lS as src n ts sp)(k:bC M H H')(f:∀ b∈M,b∈x::lA::lE::lS::as):bN H H':=λb xs e=>k b _ (λh=>VC a b (f b h) xs e) e
def jn (W:Nat)(y:W4):bY:=⟨y.n * W + y.w.g,y.n * W + W + y.w.o,1⟩
theorem R9 {ms:List M4}{W i:Nat}:iF ms W i=(cM ms i).map (jn W):=rfl
theorem RZ {W:Nat}{ms:List M4}(gd:Good W ms){i:Nat}{y:W4}(h:y∈cM ms i):y.n < ms.length/\y.w.g < W/\y.w.o < W:=by have l:=dF h;obtain ⟨a1,a2,_⟩:=fO.inside gd l;obtain ⟨m,hm,_⟩:=l;exact ⟨(zC.mp hm).1,a1,a2⟩
theorem PK {W N n v:Nat}(hn:n<=N)(hv:v < W):n * W + v < W * (N + 1):=by have:(n + 1) * W<=(N + 1) * W:=Nat.mul_le_mul_right _ (by omega);rw [yV] at this;rw [xb W];omega
theorem QE {W N:Nat}(hW:W<=12)(hN:N<=60):W * (N + 1)<=732/\W * N<=720:=by have h1:W * (N + 1)<=12 * 61:=Nat.mul_le_mul hW (by omega);have h2:W * N<=12 * 60:=Nat.mul_le_mul hW hN;omega
theorem Wj {f:Nat->V}{n i:Nat}(h:2 * i + 2<=n):uN ((List.range n).map f) (some ((2 * i:Nat):Int)) (some ((2 * i + 2:Nat):Int))=[f (2 * i),f (2 * i + 1)]:=by
 unfold uN;rw [HT.mH,HT.mH,zA,yK,Nat.min_eq_left h,Nat.min_eq_left (show 2 * i<=n by omega),show 2 * i + 2 - 2 * i=2 by omega];apply List.ext_getElem?
 intro j;rw [List.getElem?_take,List.getElem?_drop,zS]
 match j with
 | 0=>rw [if_pos (by omega),xL (by omega)];rfl
 | 1=>rw [if_pos (by omega),xL (by omega)];rfl
 | j + 2=>rw [if_neg (by omega)];rfl
def iL (n:Nat):List V:=(List.range n).map λk:Nat=>V.int (k:Int)
theorem VR {n:Nat}:iL (n + 1)=iL n++[V.int (n:Int)]:=by unfold iL;rw [yj,zE];rfl
theorem uy {n:Nat}:(iL n).length=n:=by unfold iL;rw [zA,yK]
theorem aao {n k:Nat}{v:V}(h:(iL n)[k]?=some v):k < n/\v=.int (k:Int):=by have l:=(zC.mp h).1;rw [uy] at l;unfold iL at h;rw [zS,xL l] at h;exact ⟨l,(Option.some.inj h).symm⟩
theorem lD {ms:List M4}:∀ {cs:List Int}{s:Nat}{y A:Int}{r:Nat×Int},aR ms s y A cs=some r->∀ c∈cs,∃ (k:Nat) (m:M4),c=(k:Int)/\ms[k]?=some m
 | [],_,_,_,_,_,c,hc=>by cases hc
 | n::cs,s,y,A,r,h,c,hc=>by
  obtain ⟨m,hm,_,n0,_,_,rest⟩:=wx h;rcases zH.mp hc with rfl | hc
  ·obtain ⟨k,rfl⟩:=zm n0;exact ⟨k,m,rfl,by rw [zk] at hm;exact hm⟩
  ·exact lD rest c hc
def mh (n:Nat)(k:Int):Int:=if (n:Int) < k then k - 1 else k
theorem rK {ms:List M4}{n:Nat}:∀ {c:List Int}{v:Nat}{t A:Int}{r:Nat×Int},aR ms v t A c=some r->(n:Int) ∉ c->A≠n->aR (ms.eraseIdx n) v t (mh n A) (c.map (mh n))=some r
 | [],v,t,A,r,h,_,_=>h
 | k::c,v,t,A,r,h,nn,An=>by
  obtain ⟨m,hm,Ak,k0,hv,lt,wk⟩:=wx h;have kn:k≠n:=λe=>nn (by rw [e];exact .head _);have ih:=rK wk (λz=>nn (.tail _ z)) kn;show aR (ms.eraseIdx n) v t (mh n A) (mh n k::c.map (mh n))=some r;unfold aR;have gG:(ms.eraseIdx n)[(mh n k).toNat]?=some m:=by
   rw [List.getElem?_eraseIdx];unfold mh;by_cases d:(n:Int) < k
   ·rw [if_pos d,if_neg (by omega),<- hm];congr 1;omega
   ·rw [if_neg d,if_pos (by omega)];exact hm
  rw [gG];dsimp only;rw [if_pos]
  ·exact ih
  ·refine ⟨?_,?_,hv,lt⟩
   ·unfold mh;split <;> split <;> omega
   ·unfold mh;split <;> omega
theorem Ox {ms:List M4}{n s w:Nat}{a e:Int}{c:List Int}(h:aR ms s a (-1) c=some (w,e))(nn:(n:Int) ∉ c):aR (ms.eraseIdx n) s a (-1) (c.map (mh n))=some (w,e):=by have:=rK h nn (by omega);rw [show mh n (-1)=-1 from by unfold mh;rw [if_neg (by omega)]] at this;exact this
theorem OF {W:Nat}{ms:List M4}(gd:Good W ms){s w:Nat}{a z:Int}{c1 c2:List Int}(w1:∃ e,e<=z/\aR ms s a (-1) c1=some (w,e))(w2:∃ e,e<=z/\aR ms s a (-1) c2=some (w,e))(dj:∀ n∈c1,n ∉ c2)(n:Nat):aY (fwd (ms.eraseIdx n) (aE s a) w) z=true:=by
 have one:∀ {c:List Int},(∃ e,e<=z/\aR ms s a (-1) c=some (w,e))->(n:Int) ∉ c->aY (fwd (ms.eraseIdx n) (aE s a) w) z=true:=λ{c} h nn=>by
  obtain ⟨e,le,h⟩:=h;obtain ⟨y,hy,l⟩:=aL.mp (fP (gd.sub (yG _ _)) (Ox h nn));exact aL.mpr ⟨y,hy,by omega⟩
 by_cases c:(n:Int)∈c1
 ·exact one w2 (dj n c)
 ·exact one w1 c
theorem ki {W:Nat}{ms:List M4}(gd:Good W ms){s w:Nat}{a z:Int}{c:List Int}(h:∃ e,e<=z/\aR ms s a (-1) c=some (w,e)):aY (fwd ms (aE s a) w) z=true:=by obtain ⟨e,le,h⟩:=h;obtain ⟨y,hy,l⟩:=aL.mp (fP gd h);exact aL.mpr ⟨y,hy,by omega⟩
noncomputable def dM (ms:List M4)(x:L4):Nat->List Int
 | 0=>[]
 | i + 1=>dM ms x i++(if gR ms i x=true then [(i:Int)] else [])
theorem oi {ms:List M4}{x:L4}(h:∀ n,gR ms n x=false):∀ i,dM ms x i=[]
 | 0=>rfl
 | i + 1=>by unfold dM;rw [oi h i,h i];rfl
theorem jd {ms:List M4}{x:L4}{k:Nat}(h:gR ms k x=true):∀ {i},k < i->(k:Int)∈dM ms x i
 | 0,l=>by omega
 | i + 1,l=>by
  unfold dM;by_cases c:k=i
  ·subst c;rw [if_pos h];exact zQ _ (.head _)
  ·exact z4 _ (jd h (by omega))
theorem vj {n:Nat}{ms:List M4}(g:Good n ms){r:Fn}:∀ (cs:List Int) (i v:Nat) (t A:Int) {w:Nat}{e:Int},aY (bD (aI ms) r i v) t=true->aR ms v t A cs=some (w,e)->aY (bD (aI ms) r (i + cs.length) w) e=true
 | [],i,v,t,A,w,e,h,wk=>by
  have wk:some (v,t)=some (w,e):=wk;cases wk;exact h
 | c::cs,i,v,t,A,w,e,h,wk=>by
  obtain ⟨m,hm,h1,h2,h3,h4,wk⟩:=wx wk;have mem:=zB hm;obtain ⟨b1,b2,_⟩:=g.each m mem;obtain ⟨y,hy,ly⟩:=aL.mp h;have st:aY (bD (aI ms) r (i + 1) (if v=m.lo.toNat then m.hi.toNat else m.lo.toNat)) m.t=true:=by
   rcases h3 with rfl | rfl
   ·rw [if_pos rfl];exact uv (x:=⟨m.lo.toNat,m.hi.toNat,m.t⟩) (ye.mpr ⟨m,mem,.head _⟩) (aJ.mpr ⟨y,hy,by show y < m.t;omega⟩)
   ·rw [if_neg (by omega)];exact uv (x:=⟨m.hi.toNat,m.lo.toNat,m.t⟩) (ye.mpr ⟨m,mem,.tail _ (.head _)⟩) (aJ.mpr ⟨y,hy,by show y < m.t;omega⟩)
  have:=vj g cs (i + 1) _ m.t c st wk;rw [zU,show i + (cs.length + 1)=i + 1 + cs.length by omega];exact this
theorem vm {n:Nat}{ms:List M4}(g:Good n ms){s w:Nat}{a e z:Int}{cs:List Int}(wk:aR ms s a (-1) cs=some (w,e))(le:e<=z):aY (bD (aI ms) (aE s a) cs.length w) z=true:=by have h0:aY (bD (aI ms) (aE s a) 0 s) a=true:=aL.mpr ⟨a,by show aE s a s=some a;unfold aE;rw [if_pos rfl],zb _⟩;have:=vj g cs 0 s a (-1) h0 wk;rw [xc] at this;exact cR this le
theorem pP.le {ms:List M4}{s w m c:Nat}{a z:Int}(h:pP ms s a w z m)(hc:aY (bD (aI ms) (aE s a) c w) z=true):m<=c:=by
 rcases xQ c m with l | l
 ·exact absurd ((h.2 c l).symm.trans hc) (by decide)
 ·exact l
theorem ko {n:Nat}{ms:List M4}(g:Good n ms){v w:Nat}{t1 th e:Int}{cs2:List Int}(le:t1<=th)(w2:aR ms v th (-1) cs2=some (w,e)):∀ (cs1:List Int) (s:Nat) (a A:Int),(A=-1\/∃ n:Nat,∃ m,A=n/\ms[n]?=some m/\m.t<=a)->aR ms s a A cs1=some (v,t1)->aR ms s a A (cs1++cs2)=some (w,if cs2=[] then t1 else e)
 | [],s,a,A,hA,w1=>by
  have w1:some (s,a)=some (v,t1):=w1;cases w1;rw [yc];cases cs2 with
  | nil=>
   have w2:some (v,th)=some (w,e):=w2;cases w2;rw [if_pos rfl];rfl
  | cons c cs=>
   rw [if_neg (by simp)];obtain ⟨m,hm,h1,h2,h3,h4,wk⟩:=wx w2;obtain ⟨j,rfl⟩:=zm h2;rw [zk] at hm;have aj:A < j:=by
    rcases hA with rfl | ⟨n',m',rfl,gG,lt'⟩
    ·omega
    ·have:=ux g.ord.2 gG hm (by omega);omega
   unfold aR;rw [zk,hm];dsimp only;rw [if_pos ⟨aj,h2,h3,by omega⟩];exact wk
 | c::cs,s,a,A,hA,w1=>by
  obtain ⟨m,hm,h1,h2,h3,h4,wk⟩:=wx w1;obtain ⟨j,rfl⟩:=zm h2;rw [zk] at hm;rw [yU];unfold aR;rw [zk,hm];dsimp only;rw [if_pos ⟨h1,h2,h3,h4⟩];exact ko g le w2 cs _ m.t j (.inr ⟨j,m,rfl,hm,zb _⟩) wk
theorem UM {n:Nat}{ms:List M4}(g:Good n ms){s:Nat}{a:Int}:∀ (k w:Nat) (e:Int),(e - a).toNat=k->fwd ms (aE s a) w=some e->∃ cs,aR ms s a (-1) cs=some (w,e):=by
 intro k;induction k using Nat.strongRecOn with
 | _ k ih=>
  intro w e ek h;have er:=fN (s:=s) (x:=a) g;by_cases c:w=s
  ·subst c;rw [er.self] at h;cases h;exact ⟨[],rfl⟩
  ·obtain ⟨x,hx,rfl,rfl,y,hy,ly⟩:=er.XS w e c h;have ay:=Sy hy;obtain ⟨cs,wk⟩:=ih (y - a).toNat (by omega) x.g y rfl hy;obtain ⟨j,lk⟩:=vh hx;have ne:=(qa g hx).2.2.2.2;have w2:aR ms x.g y (-1) [(j:Int)]=some (x.o,x.t):=by
    rw [fq lk ne ly (by omega)];rfl
   have:=ko g (zb y) w2 cs s a (-1) (.inl rfl) wk;rw [if_neg (by simp)] at this;exact ⟨_,this⟩
theorem To {n:Nat}{ms:List M4}(g:Good n ms){s w:Nat}{a z:Int}(h:aY (fwd ms (aE s a) w) z=true)(no:∀ i,aY (bD (aI ms) (aE s a) i w) z=false):False:=by obtain ⟨e,he,le⟩:=aL.mp h;obtain ⟨cs,wk⟩:=UM g _ w e rfl he;exact absurd ((no _).symm.trans (vm g wk le)) (by decide)
noncomputable def Wn (ws:List W3)(f:Fn):Bool:=ws.all λx=>!(gT (f x.o) x.t) || gT (f x.g) (x.t - 1)
theorem VJ {k:Nat}{x:Int}:aE k x k=some x:=by unfold aE;rw [if_pos rfl]
theorem Nc {n w:Nat}{z:Int}{ms:List M4}(g:Good n ms):Wn (aI ms) (bwd ms w z)=true:=by
 refine yM.mpr λx hx=>?_;cases h:gT (bwd ms w z x.o) x.t with
 | false=>rfl
 | true=>
  rw [<-o4 g.ord] at h;rw [<-o4 g.ord];obtain ⟨e,he,le⟩:=aL.mp h;have cl:=jR (s:=x.g) (x:=x.t - 1) g;have kg:fwd ms (aE x.g (x.t - 1)) x.g=some (x.t - 1):=cX VJ;have uo:aY (fwd ms (aE x.g (x.t - 1)) x.o) x.t=true:=by
   have:=yM.mp cl x hx;rw [aJ.mpr ⟨_,kg,by omega⟩] at this;simpa using this
  have:=PF cl (ws:=aI ms) (st:=aE x.o x.t) (λ_ h=>h) (λi y hi=>by
   unfold aE at hi;split at hi
   ·rename_i e;cases hi;rw [e];exact uo
   ·cases hi) w e he
  rw [cR this le];rfl
def lF (e:Int)(m:M4):M4:=⟨m.lo,m.hi,e - m.t,m.m⟩
theorem US (e:Int)(m:M4):lF e (lF e m)=m:=by obtain ⟨a,b,t,c⟩:=m;show M4.mk a b (e - (e - t)) c=_;rw [show e - (e - t)=t from by omega]
def Turn (e:Int)(ms ns:List M4):Prop:=ns.Perm (ms.map (lF e))
theorem Turn.symm {e:Int}{ms ns:List M4}(h:Turn e ms ns):Turn e ns ms:=by have:=h.map (lF e);rw [zo] at this;have id':(lF e ∘ lF e)=id:=funext λm=>US e m;rw [id',xp] at this;exact this.symm
theorem Turn.mem {e:Int}{ms ns:List M4}(h:Turn e ms ns){m:M4}(hm:m∈ms):lF e m∈ns:=h.mem_iff.mpr (zK.mpr ⟨m,hm,rfl⟩)
theorem Turn.loose {e:Int}{w:Int}{ms:List M4}(g:Good w ms)(e9:e<=1000000000)(lt:∀ m∈ms,m.t < e):Loose w (ms.map (lF e)):=by
 refine ⟨by rw [zA];exact g.gH,λr hr=>?_,yO.mpr (g.loose.pw.imp λ{a b} h q=>h (by
  have:e - a.t=e - b.t:=q;omega))⟩
 obtain ⟨x,hx,rfl⟩:=zK.mp hr;obtain ⟨h1,h2,h3,h4,h5,h6,h7⟩:=g.each x hx;have:=lt x hx;exact ⟨h1,h2,h3,by show 1<=e - x.t;omega,by show e - x.t<=1000000000;omega,h6,h7⟩
theorem Turn.raw {e:Int}{w:Int}{ms:List M4}(g:Good w ms)(e9:e<=1000000000)(lt:∀ m∈ms,m.t < e):Raw w (ms.map (lF e)):=by have l:=Turn.loose g e9 lt;refine ⟨l.gH,λr hr=>?_,l.pw⟩;obtain ⟨h1,h2,h3,h4,h5,h6,h7⟩:=l.each r hr;exact ⟨h1,by omega,by omega,h3,by omega,h4,h5,h6,h7⟩
theorem tN {m:M4}{a:W3}:a∈two m↔a=⟨m.lo.toNat,m.hi.toNat,m.t⟩\/a=⟨m.hi.toNat,m.lo.toNat,m.t⟩:=by unfold two;simp only [zH,yW,or_false]
theorem Turn.way {e:Int}{ms ns:List M4}(h:Turn e ms ns){a:W3}(ha:a∈aI ms):(⟨a.o,a.g,e - a.t⟩:W3)∈aI ns:=by
 unfold aI at ha ⊢;obtain ⟨m,hm,hx⟩:=ye.mp ha;refine ye.mpr ⟨lF e m,h.mem hm,?_⟩;rcases tN.mp hx with rfl | rfl
 ·exact tN.mpr (.inr rfl)
 ·exact tN.mpr (.inl rfl)
theorem jY.uniq {n s:Nat}{x:Int}{ws ws':List W3}{E E':Fn}(h:jY n ws s x E)(h':jY n ws' s x E')(hw:∀ a∈ws,a∈ws')(hw':∀ a∈ws',a∈ws){i:Nat}(hi:i < n):E i=E' i:=by rw [<-rY h (ws:=ws) (λ_ z=>z) (λ_ z=>z) hi,<- rY h' (ws:=ws) hw' hw hi]
theorem jf:∀ {ws:List W3}{lf:Fn}{i:Nat}{y:Int},lf i=some y->ws.foldl bU lf i=some y
 | [],_,_,_,h=>h
 | x::ws,lf,i,y,h=>by
  refine jf (ws:=ws) ?_;unfold bU;split
  ·rename_i c;rw [qO λq=>by rw [q,c.1] at h;cases h];exact h
  ·exact h
theorem pG:∀ {ws:List W3}{lf:Fn}{i:Nat}{y:Int},ws.foldl bU lf i=some y->lf i=none->∃ x∈ws,x.g=i/\y=x.t - 1/\∃ b,ws.foldl bU lf x.o=some b/\x.t<=b
 | [],_,_,_,h,h0=>by
  have h:_=_:=h;rw [List.foldl_nil,h0] at h;cases h
 | x::ws,lf,i,y,h,h0=>by
  rw [List.foldl_cons] at h ⊢;by_cases c:bU lf x i=none
  ·obtain ⟨x',hx',q⟩:=pG h c;exact ⟨x',.tail _ hx',q⟩
  ·have c':=c;unfold bU at c';split at c'
   ·rename_i d;by_cases q:i=x.g
    ·subst q;have e1:bU lf x x.g=some (x.t - 1):=by unfold bU;rw [if_pos d,wo]
     rw [jf e1] at h;cases h;obtain ⟨b,hb,le⟩:=dR.mp d.2;exact ⟨x,.head _,rfl,rfl,b,jf (by
      unfold bU;rw [if_pos d];by_cases q:x.o=x.g
      ·rw [q,h0] at hb;cases hb
      ·rw [qO q];exact hb),le⟩
    ·rw [qO q] at c';exact absurd h0 c'
   ·exact absurd h0 c'
theorem Ue {n w:Nat}{z:Int}{ms:List M4}(g:Good n ms):bwd ms w z w=some z:=(uS g.ord).1
theorem Oe {n w:Nat}{z e:Int}{ms ns:List M4}(g:Good n ms)(g':Good n ns)(h:Turn e ms ns):jY n (aI ns) w (e - z - 1) (λv=>(bwd ms w z v).map λy=>e - 1 - y):=by
 refine ⟨?_,λi t ne q=>?_,λa ha y q lt=>?_,λa ha=>?_⟩
 ·show (bwd ms w z w).map _=_;rw [Ue g];exact congrArg some (show e - 1 - z=e - z - 1 by omega)
 ·have q:(bwd ms w z i).map (λy=>e - 1 - y)=some t:=q;cases hb:bwd ms w z i with
  | none=>rw [hb] at q;cases q
  | some y=>
   rw [hb] at q;obtain rfl:e - 1 - y=t:=Option.some.inj q;obtain ⟨x,hx,xi,ey,b,eb,le⟩:=pG (ws:=(aI ms).reverse) (lf:=aE w z) hb (by unfold aE;rw [if_neg ne]);have eb':bwd ms w z x.o=some b:=eb;refine ⟨_,h.way (List.mem_reverse.mp hx),xi,by show e - x.t=e - 1 - y;omega,e - 1 - b,?_,by omega⟩;show (bwd ms w z x.o).map _=_;rw [eb'];rfl
 ·have hm:=h.symm.way ha;have q:(bwd ms w z a.g).map (λy=>e - 1 - y)=some y:=q;cases hb:bwd ms w z a.g with
  | none=>rw [hb] at q;cases q
  | some b=>
   rw [hb] at q;obtain rfl:e - 1 - b=y:=Option.some.inj q;have cl:=yM.mp (Nc (w:=w) (z:=z) g) _ hm;have fr:gT (bwd ms w z a.g) (e - a.t)=true:=dR.mpr ⟨b,hb,by omega⟩;have cl:(!(gT (bwd ms w z a.g) (e - a.t)) || gT (bwd ms w z a.o) (e - a.t - 1))=true:=cl;rw [fr] at cl;obtain ⟨c,hc,le⟩:=dR.mp (by simpa using cl);refine ⟨e - 1 - c,?_,by omega⟩;show (bwd ms w z a.o).map _=_;rw [hc];rfl
 ·obtain ⟨a1,a2,_⟩:=qa g' ha;omega
theorem mX {n w i:Nat}{z e:Int}{ms ns:List M4}(g:Good n ms)(g':Good n ns)(h:Turn e ms ns)(hi:i < n):(fwd ns (aE w (e - z - 1)) i).map (λy=>e - 1 - y)=bwd ms w z i:=by
 have:=jY.uniq (fN (s:=w) (x:=e - z - 1) g') (Oe (w:=w) (z:=z) g g' h) (λ_ q=>q) (λ_ q=>q) hi;rw [this];show ((bwd ms w z i).map λy=>e - 1 - y).map _=_;cases bwd ms w z i with
 | none=>rfl
 | some y=>show some (e - 1 - (e - 1 - y))=some y;rw [show e - 1 - (e - 1 - y)=y from by omega]
inductive Img (e:Int) (ms ns:List M4):List Int->List Int->Prop where
 | nil:Img e ms ns [] []
 | cons {i j:Nat}{m:M4}{cs js:List Int}:ms[i]?=some m->ns[j]?=some (lF e m)->Img e ms ns cs js->Img e ms ns ((i:Int)::cs) ((j:Int)::js)
theorem mV {ms:List M4}{s w:Nat}{y t A:Int}(h:aR ms s y A []=some (w,t)):s=w/\y=t:=by unfold aR at h;cases h;exact ⟨rfl,rfl⟩
theorem R0 {n:Nat}{ms:List M4}(g:Good n ms){j u:Nat}{t:Int}{m:M4}(hm:ms[j]?=some m)(hu:u=m.lo.toNat\/u=m.hi.toNat)(lt:t < m.t):aR ms u t (-1) [(j:Int)]=some (if u=m.lo.toNat then m.hi.toNat else m.lo.toNat,m.t):=by
 have ge:=g.each m (zB hm);rcases hu with rfl | rfl
 ·rw [if_pos rfl,fq (g:=m.lo.toNat) (o:=m.hi.toNat) (t:=m.t) ⟨m,hm,rfl,.inl ⟨rfl,rfl⟩⟩ (by omega) lt (by omega)];rfl
 ·rw [if_neg (by omega),fq (g:=m.hi.toNat) (o:=m.lo.toNat) (t:=m.t) ⟨m,hm,rfl,.inr ⟨rfl,rfl⟩⟩ (by omega) lt (by omega)];rfl
theorem Qk {n:Nat}{e z:Int}{ms ns:List M4}(g:Good n ms)(g':Good n ns){w:Nat}{t:Int}(tz:t<=z):∀ {cs js:List Int},Img e ms ns cs js->∀ {s:Nat}{y A:Int},aR ms s y A cs=some (w,t) ->
  aR ns w (e - z - 1) (-1) js.reverse=some (s,match cs with | []=>e - z - 1 | c::_=>e - ((ms[c.toNat]?.map M4.t).getD 0)):=by
 intro cs js im;induction im with
 | nil=>
  intro s y A h;obtain ⟨rfl,rfl⟩:=mV h;rfl
 | @cons i j m cs js hi hj im ih=>
  intro s y A h;obtain ⟨m',gG,_,_,hs,lt,rest⟩:=wx h;rw [zk,hi] at gG;cases gG;have ge:=g.each m (zB hi);have h1:=ih rest;rw [xU];generalize hu:(if s=m.lo.toNat then m.hi.toNat else m.lo.toNat)=u at h1 rest;generalize hτ:(match cs with | []=>e - z - 1 | c::_=>e - ((ms[c.toNat]?.map M4.t).getD 0))=τ at h1;have lτ:τ < e - m.t:=by
   rw [<-hτ];cases im with
   | nil=>
    obtain ⟨_,q⟩:=mV rest;show e - z - 1 < e - m.t;omega
   | @cons i2 j2 m2 cs2 js2 YA hj2 im2=>
    obtain ⟨m3,hm3,_,_,_,lt3,_⟩:=wx rest;rw [zk,YA] at hm3;cases hm3;show e - ((ms[((i2:Nat):Int).toNat]?.map M4.t).getD 0) < e - m.t;rw [zk,YA];show e - m2.t < e - m.t;omega
  have Yr:u=m.lo.toNat\/u=m.hi.toNat:=by rw [<-hu];split <;> simp
  have w1:=R0 g' (t:=τ) hj Yr lτ;have:=ko g' (zb τ) w1 js.reverse w (e - z - 1) (-1) (.inl rfl) h1;rw [this,if_neg (List.cons_ne_nil (j:Int) [])];show some _=some (s,e - ((ms[((i:Nat):Int).toNat]?.map M4.t).getD 0));rw [zk,hi];have:(if u=(lF e m).lo.toNat then (lF e m).hi.toNat else (lF e m).lo.toNat)=s:=by
   show (if u=m.lo.toNat then m.hi.toNat else m.lo.toNat)=s;rw [<-hu];rcases hs with rfl | rfl
   ·rw [if_pos rfl,if_neg (by omega)]
   ·rw [if_neg (show m.hi.toNat≠m.lo.toNat by omega),if_pos rfl]
  rw [this];rfl
end Sm
namespace L2
open PySem PySem.Spec PyProof.Rows PySem.SeqAt
theorem pU (l:Addr)(items:Array Value)(n:Nat)(dd:Option Addr)(sl:Array (Option Value))(x:Value)(e:Value->Bool)(j:Nat)(hj:j < items.size)
  (hit:e items[j]=true) (hno:∀ m (hm:m < items.size),m < j->e items[m]=false) :
  Meets (Builtin.«tuple.index» ⟨[.ref l,x],[]⟩)
   (λA R s=>s.heap.get? l=some { cls:=.type "tuple", dict:=dd,data:=.seq items n,slots:=sl }/\(∀ y,y∈items->EqAt A.in1 s y x (e y))/\R (.ok (.ret (.int j s.toks))) { s with toks:=s.toks + 1 }):=by
 intro prog w A R s h;obtain ⟨hp,g,d,tk,os⟩:=s;obtain ⟨hl,he,h⟩:=h;unfold Builtin.«tuple.index»;simp only [Std.Legacy.Range.forIn_eq_forIn_range'];wp_walk using wpAny_loadPart' hl;refine wpAny_forIn_list _ (λrest b s'=>b=(none,())/\s'={ heap:=hp,gens:=g,drawn:=d,toks:=tk,os:=os }/\∃ i,rest=List.range' i (items.size - i)/\i<=j) _ (λi rest b s' hI=>?_) (λb s' hI=>?_) _ _ ⟨rfl,rfl,0,by simp [Std.Legacy.Range.size],za _⟩
 ·obtain ⟨rfl,rfl,k,hk,kj⟩:=hI;have hks:items.size - k=(items.size - (k + 1)) + 1:=by omega
  rw [hks,List.range'_succ] at hk;obtain ⟨rfl,rfl⟩:=List.cons.inj hk;have hi:items[i]?=some (items[i]'(by omega)):=by simp
  rw [hi];dsimp only;refine wpAny_bind (he _ (Array.getElem_mem (by omega)) prog w _ _ ?_);by_cases c:i=j
  ·subst c;rw [hit];wp_walk;exact h
  ·rw [hno i (by omega) (by omega)];wp_walk;exact ⟨rfl,rfl,i + 1,rfl,by omega⟩
 ·obtain ⟨_,_,k,hk,kj⟩:=hI;have:=congrArg List.length hk;rw [List.length_range',yE] at this;omega
noncomputable def ue (K:PySem.W.Frag):V->List V->Hp->VK->Prop:=λx vs H Q=>∃ (n:Nat) (p:Addr) (xs:List V) (y:V) (f:V->Bool) (j:Nat) (u:V),n<=20/\x=.ref p/\vs=[y]/\bS K H p xs/\(∀ u∈xs,Eqv K H n u y (f u))/\xs[j]?=some u/\f u=true/\(∀ m,m < j->∀ w,xs[m]?=some w->f w=false)/\Q (.int (j:Nat)) H
theorem QU {X:Cx}{K:PySem.W.Frag}(hK:X.K=K)(hu:X.A.units + 64 < cLine):MtR X "tuple.index" (ue K):=by
 subst hK;intro af s σ H x vs v us Q I rx rv h;obtain ⟨n,p,xs,y,f,j,u0,hn,rfl,rfl,hq,he,hj,hf,hno,q⟩:=h;cases rx;obtain ⟨u,rfl,ru⟩:=rv.one;obtain ⟨aH,r,pl,hz⟩:=I.tuple hq;obtain ⟨⟨cls,dd,data,sl⟩,ho,hc,n',hd⟩:=pl;dsimp only at hc hd;subst hc hd;obtain ⟨w0,hw0,rw0⟩:=r.get hj;have jl:j < aH.length:=(zC.mp hw0).1;refine call_meets PySem.F.slot_tuple_index ⟨_,ho,rfl⟩ PySem.F.entry_tuple_index (PySem.F.args_tuple_index_2 _ _) (pU p aH.toArray _ _ _ u (YZ f) j (by simpa using jl) ?_ ?_) ⟨ho,λw hw=>?_,?_⟩
 ·have e:aH.toArray[j]'(by simpa using jl)=w0:=by simpa using (zC.mp hw0).2
  rw [e,uZ rw0];exact hf
 ·intro k hk kj;have kl:k < aH.length:=by simpa using hk
  obtain ⟨xk,hxk,rk⟩:=dw r (j:=k) (by simpa using kl);rw [uZ rk];exact hno k kj xk hxk
 ·obtain ⟨x0,hx0,r0⟩:=vn r w (by simpa using hw);rw [uZ r0];exact OZ I n (A:=X.A.in1) (by show X.A.units + 1 + n < cLine;omega) (he x0 hx0) r0 ru
 ·exact ⟨.int _,H,I.tok _,⟨_,rfl⟩,q⟩
end L2
namespace Sm
open PySem L2 bh
theorem aO.eqv {K:PySem.W.Frag}{H:Hp}{b tr tm b' iY eO:Addr}{aa:List Int}{ps qs:List (Addr×M4)}(h:aO H b aa tr tm ps)(h':aO H b' aa iY eO qs)(e:ps.map (·.2)=qs.map (·.2)):Eqv K H 3 (.ref b) (.ref b') true:=by
 have le:ps.length=qs.length:=by have:=congrArg List.length e;rwa [zA,zA] at this
 refine .inr (.inr ⟨b,b',_,_,λ_=>true,rfl,rfl,.inr ⟨bS.of h.book,bS.of h'.book⟩,λ_=>rfl,by simp,λi x y hx hy=>?_⟩)
 match i with
 | 0=>
  cases hx;cases hy;have:=Eqv.rows (K:=K) (n:=1) (f:=V.int) (λ_=>rfl) jQ (.inr ⟨h.aa,h'.aa⟩);rwa [decide_eq_true rfl] at this
 | 1=>
  cases hx;cases hy;refine .inr (.inr ⟨tm,eO,_,_,λ_=>true,rfl,rfl,.inr ⟨bS.of h.meets,bS.of h'.meets⟩,λ_=>rfl,by simp [le],λj x y hx hy=>?_⟩);obtain ⟨r,hr,rfl⟩:=wY hx;obtain ⟨r',RO,rfl⟩:=wY hy;have er:r.2=r'.2:=by
   have:=congrArg (·[j]?) e;simp only [zS,hr,RO,xR,Option.some.injEq] at this;exact this
  have h1:H r.1=some (.tup (r.2.ints.map V.int)):=h.rows _ (zB hr);have h2:H r'.1=some (.tup (r.2.ints.map V.int)):=by rw [er];exact h'.rows _ (zB RO)
  have:=Eqv.rows (K:=K) (n:=0) (f:=V.int) (λ_=>rfl) jQ (.inr ⟨h1,h2⟩);rwa [decide_eq_true rfl] at this
 | i + 2=>cases hx
theorem Tw {a b:M4}:a.ints=b.ints↔a=b:=by
 constructor
 ·intro h;cases a;cases b;simp [M4.ints] at h;simp [h]
 ·rintro rfl;rfl
theorem r8 {K:PySem.W.Frag}{H:Hp}{b tr tm b' iY eO:Addr}{aa:List Int}{ps qs:List (Addr×M4)}{Q:VK}{neg:Bool}(h:aO H b aa tr tm ps)(h':aO H b' aa iY eO qs)(e:ps.map (·.2)=qs.map (·.2))(q:Q (.bl (if neg=true then !true else true)) H):Vs K neg (.ref b) (.ref b') H Q:=by
 rcases aO.eqv (K:=K) h h' e with ⟨e,_,hb⟩ | ⟨hf,_⟩ | ⟨a',c',Xh,N7,f,e,ea,hs,hb,hl,hel⟩
 ·cases e;exact ⟨0,b,b,_,_,λ_=>true,true,by decide,rfl,rfl,.inr ⟨bS.of h.book,bS.of h.book⟩,by simp,λi x y hx hy=>(by
   rw [hx] at hy;cases hy
   match i with
   | 0=>cases hx;exact .inl ⟨rfl,⟨_,rfl⟩,rfl⟩
   | 1=>cases hx;exact .inl ⟨rfl,⟨_,rfl⟩,rfl⟩
   | i + 2=>cases hx),q⟩
 ·cases hf
 ·exact ⟨2,a',c',Xh,N7,f,true,by decide,e,ea,hs,hl,hel,q⟩
theorem Yb {a b:M4}(h:lx b.row a.row=false):a.t < b.t\/(a.t=b.t/\a.lo<=b.lo):=by
 unfold M4.row lx at h;split at h
 ·rename_i e;unfold lx at h;split at h
  ·rename_i e2;exact .inr ⟨e.symm,by omega⟩
  ·exact .inr ⟨e.symm,by have:=of_decide_eq_false h;omega⟩
 ·rename_i e;have:=of_decide_eq_false h;exact .inl (by omega)
theorem Good.once {w:Int}{ms:List M4}(g:Good w ms){i j:Nat}{m:M4}(hi:ms[i]?=some m)(hj:ms[j]?=some m):i=j:=by
 have key:∀ {i j:Nat},ms[i]?=some m->ms[j]?=some m->¬ i < j:=λ{i j} hi hj lt=>by
  obtain ⟨li,ei⟩:=zC.mp hi;obtain ⟨lj,ej⟩:=zC.mp hj;have:=zl.mp g.order i j li lj lt;rw [ei,ej] at this;rcases this with h | h
  ·omega
  ·omega
 have a:=key hi hj;have b:=key hj hi;omega
open Classical in
theorem OP {K:PySem.W.Frag}{H:Hp}{tm t:Addr}{w:Int}{qs:List (Addr×M4)}{m:M4}{j:Nat}{Q:VK}(hm:H tm=some (.tup (qs.map λa=>V.ref a.1)))(rT:dS H qs)(ht:H t=some (.tup m.vs))(g:Good w (qs.map (·.2)))(hj:(qs.map (·.2))[j]?=some m)(q:Q (.int (j:Nat)) H):ue K (.ref tm) [.ref t] H Q:=by
 have one:∀ x∈qs,(∃ y∈qs,V.ref x.1=V.ref y.1/\y.2.ints=m.ints)↔x.2.ints=m.ints:=λx hx=>by
  constructor
  ·rintro ⟨y,hy,e,h⟩;have e:x.1=y.1:=by cases x;cases y;injection e
   have h1:=rT x hx;rw [e,rT y hy] at h1;have:y.2.vs=x.2.vs:=by injection h1 with h1;injection h1
   have:y.2.ints.map V.int=x.2.ints.map V.int:=this;rw [<-List.map_inj_right (f:=V.int) (λa b h=>by injection h) |>.mp this];exact h
  ·exact λh=>⟨x,hx,rfl,h⟩
 obtain ⟨x,hx,ex⟩:∃ x,qs[j]?=some x/\x.2=m:=by
  rw [zS] at hj;cases h:qs[j]? with
  | none=>rw [h] at hj;cases hj
  | some x=>rw [h] at hj;exact ⟨x,rfl,Option.some.inj hj⟩
 refine ⟨1,tm,_,.ref t,λu=>decide (∃ y∈qs,u=V.ref y.1/\y.2.ints=m.ints),j,.ref x.1,by decide,rfl,rfl,bS.of hm,λu hu=>?_,by rw [zS,hx];rfl,decide_eq_true ⟨x,zB hx,rfl,by rw [ex]⟩,λi hi u hu=>?_,q⟩
 ·obtain ⟨y,hy,rfl⟩:=zK.mp hu;have:=Eqv.rows (f:=V.int) (λ_=>rfl) jQ (K:=K) (n:=0) (a:=y.1) (c:=t) (xs:=y.2.ints) (ys:=m.ints) (.inr ⟨rT y hy,ht⟩);have e:decide (∃ z∈qs,V.ref y.1=V.ref z.1/\z.2.ints=m.ints)=decide (y.2.ints=m.ints):=by
   rw [decide_eq_decide];exact one y hy
  show Eqv K H 1 (V.ref y.1) (V.ref t) (decide (∃ z∈qs,V.ref y.1=V.ref z.1/\z.2.ints=m.ints));rw [e];exact this
 ·obtain ⟨y,hy,rfl⟩:=wY hu;refine decide_eq_false λh=>?_;have e:=(one y (zB hy)).mp h;have e2:y.2=m:=Tw.mp e;have:=g.once (i:=i) (j:=j) (m:=m) (by rw [zS,hy];show some y.2=_;rw [e2]) hj;omega
theorem rM {ms:List M4}:∀ {cs:List Int}{s:Nat}{y A:Int}{r:Nat×Int},aR ms s y A cs=some r->∀ c∈cs,∃ (k:Nat) (m:M4),c=(k:Int)/\ms[k]?=some m
 | [],_,_,_,_,_,c,hc=>by cases hc
 | n::cs,s,y,A,r,h,c,hc=>by
  obtain ⟨m,hm,_,n0,_,_,rest⟩:=wx h;rcases zH.mp hc with rfl | hc
  ·obtain ⟨k,rfl⟩:=zm n0;exact ⟨k,m,rfl,by rw [zk] at hm;exact hm⟩
  ·exact rM rest c hc
theorem QS {K:PySem.W.Frag}{H:Hp}{a c:Addr}{xs:List V}{Q:VK}(ha:H a=some (.lst xs))(hc:H c=some (.lst xs))(hf:∀ x∈xs,cG x=true/\sQ x x=true)(q:Q (.bl false) H):Vs K true (.ref a) (.ref c) H Q:=by refine ⟨0,a,c,xs,xs,λ_=>true,true,by decide,rfl,rfl,.inl ⟨aU.of ha,aU.of hc⟩,by simp,λi x y hx hy=>?_,q⟩;rw [hx] at hy;cases hy;have:=hf x (zB hx);exact .inr ⟨this.1,this.1,this.2.symm⟩
noncomputable def Se (T:Addr)(lp:Pos):Sp:=λvs H Q _=>∃ b e aa tr tm ps,vs=[.ref b,.int e]/\aO H b aa tr tm ps/\1<=aa.length/\aa.length<=12/\(∀ r∈aa,(0:Int)<=r/\r<=99)/\Good aa.length (ps.map (·.2))/\e<=1000000000/\(∀ m∈ps.map (·.2),m.t < e)/\MT T lp kN H /\
 ∀ b' iY eO PM H',cL T H H'->MT T lp kN H'->aO H' b' aa iY eO PM->Good aa.length (PM.map (·.2))->Turn e (ps.map (·.2)) (PM.map (·.2))->Q (.ref b') H'
noncomputable def QA:Sp:=λvs H Q _=>∃ b aa tr tm ps,vs=[.ref b]/\aO H b aa tr tm ps/\Good aa.length (ps.map (·.2)) /\
 ∀ b' eO qs H',aG H H'->aO H' b' aa tr eO qs->qs.Sublist ps->(∀ x∈qs,x.2.t < 1000000000)->Q (.ref b') H'
noncomputable def Og:Sp:=λvs H Q _=>∃ b e aa tr tm ps,vs=[.ref b,.int e]/\aO H b aa tr tm ps/\Good aa.length (ps.map (·.2))/\e<=1000000000/\(∀ m∈ps.map (·.2),m.t < e) /\
 ∀ b' eO qs H',aG H H'->aO H' b' aa tr eO qs->Good aa.length (qs.map (·.2))->Turn e (ps.map (·.2)) (qs.map (·.2))->Q (.ref b') H'
def NQ (e:Int)(x:L4):L4:=⟨x.w,x.s,e - x.z - 1,e - x.a - 1⟩
theorem dG {n:Nat}{e:Int}{ms ns:List M4}(g:Good n ms)(g':Good n ns)(h:Turn e ms ns){x:L4}(hs:x.s < n):bT ns (NQ e x)=bT ms x:=by
 unfold bT;show aY (fwd ns (aE x.w (e - x.z - 1)) x.s) (e - x.a - 1)=_;rw [o4 g.ord,<- mX g g' h hs];cases fwd ns (aE x.w (e - x.z - 1)) x.s with
 | none=>rfl
 | some y=>
  show decide (y<=e - x.a - 1)=decide (x.a<=e - 1 - y);exact decide_eq_decide.mpr (by omega)
theorem i8 {α:Type}:∀ {l:List α}{i:Nat}{a:α},l[i]?=some a->(a::l.eraseIdx i).Perm l
 | [],i,a,h=>by simp at h
 | x::l,0,a,h=>by cases h;exact .refl _
 | x::l,i + 1,a,h=>(List.Perm.swap _ _ _).trans ((i8 (l:=l) (i:=i) h).cons x)
theorem mZ {e:Int}{ms ns:List M4}(h:Turn e ms ns){k j:Nat}{m:M4}(hk:ms[k]?=some m)(hj:ns[j]?=some (lF e m)):Turn e (ms.eraseIdx k) (ns.eraseIdx j):=by have p1:(m::ms.eraseIdx k).Perm ms:=i8 hk;have p2:(lF e m::ns.eraseIdx j).Perm ns:=i8 hj;have p3:(lF e m::ns.eraseIdx j).Perm (lF e m::(ms.eraseIdx k).map (lF e)):=p2.trans (h.trans (p1.map (lF e)).symm);exact (List.perm_cons _).mp p3
theorem Qo {n:Nat}{e:Int}{ms ns:List M4}(g:Good n ms)(g':Good n ns)(h:Turn e ms ns){x:L4}(hs:x.s < n){k j:Nat}{m:M4}(hk:ms[k]?=some m)(hj:ns[j]?=some (lF e m)):gR ns j (NQ e x)=gR ms k x:=by unfold gR;rw [dG g g' h hs,dG (g.sub (yG _ _)) (g'.sub (yG _ _)) (mZ h hk hj) hs]
theorem gQ {ms:List M4}{x:L4}{z:Int}:∀ {i},z∈dM ms x i->∃ k:Nat,z=(k:Int)/\k < i/\gR ms k x=true
 | 0,h=>by cases h
 | i + 1,h=>by
  unfold dM at h;rcases zW.mp h with h | h
  ·obtain ⟨k,a,b,c⟩:=gQ h;exact ⟨k,a,by omega,c⟩
  ·split at h
   ·rename_i c;rw [zJ.mp h];exact ⟨i,rfl,by omega,c⟩
   ·cases h
theorem Wq {e:Int}{x:L4}:NQ e (NQ e x)=x:=by obtain ⟨s,w,a,z⟩:=x;show L4.mk s w (e - (e - a - 1) - 1) (e - (e - z - 1) - 1)=_;rw [show e - (e - a - 1) - 1=a by omega,show e - (e - z - 1) - 1=z by omega]
theorem rQ {n:Nat}{e:Int}{ms ns:List M4}(g:Good n ms)(g':Good n ns)(h:Turn e ms ns){x:L4}(hs:x.s < n){z:Int}(hz:z∈dM ms x ms.length):dM ns (NQ e x) ns.length≠[]:=by obtain ⟨k,rfl,hk,lo⟩:=gQ hz;have hm:ms[k]?=some ms[k]:=zO hk;obtain ⟨j,hj⟩:=z6 (h.mem (zx hk));have:=jd (i:=ns.length) (by rw [Qo g g' h hs hm hj];exact lo) (zC.mp hj).1;exact List.ne_nil_of_mem this
theorem gK {F:Addr->Prop}{H:Hp}{n:Nat}{ms:List M4}{x:L4}{t:Addr}(gd:Good n ms)(h:u5 F H n ms x.s x.w x.a x.z t) :
  (bT ms x=false/\∃ ys,H t=some (.tup (.str "none" :: ys)))\/(bT ms x=true/\∃ (k:Nat) (l:Addr),(k:Int)∈dM ms x ms.length/\H t=some (.tup [.str "one", .int (k:Int),.ref l]))\/(bT ms x=true/\dM ms x ms.length=[]/\∃ ys,H t=some (.tup (.str "two" :: ys))):=by
 rcases h with ⟨no,l,hT,_⟩ | ⟨yes,k,l,hk,no,hT,_⟩ | ⟨l1,l2,c1,c2,hT,p⟩
 ·exact .inl ⟨no,_,hT⟩
 ·exact .inr (.inl ⟨yes,k,l,jd (by unfold gR bT;rw [yes,no];rfl) hk,hT⟩)
 ·refine .inr (.inr ⟨ki gd p.w1,oi (λn=>?_) _,_,hT⟩);unfold gR bT;rw [OF gd p.w1 p.w2 p.dj n,Bool.not_true,xW]
theorem RA {F F':Addr->Prop}{H H':Hp}{n:Nat}{e:Int}{ms ns:List M4}{x:L4}{t t':Addr}(g:Good n ms)(g':Good n ns)(h:Turn e ms ns)(hs:x.s < n)(hw:x.w < n)(o:u5 F H n ms x.s x.w x.a x.z t)(o':u5 F' H' n ns (NQ e x).s (NQ e x).w (NQ e x).a (NQ e x).z t') :
  (bT ms x=false/\∃ ys N7,H t=some (.tup (.str "none" :: ys))/\H' t'=some (.tup (.str "none" :: N7)))\/(bT ms x=true/\∃ ys N7,H t=some (.tup (.str "two" :: ys))/\H' t'=some (.tup (.str "two" :: N7)))\/(∃ (k:Nat) (l:Addr) (N7:List V),k < ms.length/\gR ms k x=true/\H t=some (.tup [.str "one", .int (k:Int),.ref l])/\H' t'=some (.tup (.str "one" :: N7))):=by
 have c:=dG g g' h (x:=x) hs;rcases gK g o with ⟨no,ys,hT⟩ | ⟨yes,k,l,hk,hT⟩ | ⟨yes,nil,ys,hT⟩ <;> rcases gK g' o' with ⟨no',N7,TY⟩ | ⟨RY,k',l',UD,TY⟩ | ⟨RY,acJ,N7,TY⟩
 ·exact .inl ⟨no,_,_,hT,TY⟩
 ·rw [c,no] at RY;cases RY
 ·rw [c,no] at RY;cases RY
 ·rw [c,yes] at no';cases no'
 ·obtain ⟨k2,e2,l2,lo⟩:=gQ hk;obtain rfl:k=k2:=by omega
  exact .inr (.inr ⟨k,l,_,l2,lo,hT,TY⟩)
 ·exact absurd acJ (rQ g g' h hs hk)
 ·rw [c,yes] at no';cases no'
 ·have:=rQ g' g h.symm (x:=NQ e x) hw UD;rw [Wq] at this;exact absurd nil this
 ·exact .inr (.inl ⟨yes,_,_,hT,TY⟩)
theorem Tz {e:Int}{ms ns:List M4}(h:Turn e ms ns):∀ {cs:List Int},(∀ c∈cs,∃ (k:Nat) (m:M4),c=(k:Int)/\ms[k]?=some m)->∃ js,Img e ms ns cs js/\js.length=cs.length
 | [],_=>⟨[],.nil,rfl⟩
 | c::cs,hc=>by
  obtain ⟨k,m,rfl,hm⟩:=hc c (.head _);obtain ⟨j,hj⟩:=z6 (h.mem (zB hm));obtain ⟨js,im,l⟩:=Tz h (cs:=cs) λc UG=>hc c (.tail _ UG);exact ⟨(j:Int)::js,.cons hm hj im,by rw [zU,zU,l]⟩
theorem Qn {n:Nat}{e:Int}{ms ns:List M4}(g:Good n ms)(g':Good n ns)(h:Turn e ms ns){s w:Nat}{a z t:Int}{cs:List Int}(wk:aR ms s a (-1) cs=some (w,t))(tz:t<=z):∃ js τ,aR ns w (e - z - 1) (-1) js=some (s,τ)/\τ<=e - a - 1/\js.length=cs.length:=by
 obtain ⟨js,im,l⟩:=Tz h (rM wk);refine ⟨js.reverse,_,Qk g g' tz im wk,?_,by rw [yh,l]⟩;cases cs with
 | nil=>
  obtain ⟨_,q⟩:=mV wk;show e - z - 1<=e - a - 1;omega
 | cons c cs=>
  obtain ⟨m,hm,_,_,_,lt,_⟩:=wx wk;show e - ((ms[c.toNat]?.map M4.t).getD 0)<=e - a - 1;rw [hm];show e - m.t<=e - a - 1;omega
theorem mY {n:Nat}{e:Int}{ms ns:List M4}(g:Good n ms)(g':Good n ns)(h:Turn e ms ns){s w m m':Nat}{a z t:Int}{cs:List Int}(wk:aR ms s a (-1) cs=some (w,t))(tz:t<=z)(lc:cs.length=m)(lt:pP ns w (e - z - 1) s (e - a - 1) m'):m'<=m:=by obtain ⟨js,τ,wj,le,lj⟩:=Qn g g' h wk tz;have:=pP.le lt (vm g' wj le);omega
noncomputable def Vb:Sp:=λvs H Q _=>∃ p b lt,∃ s w:Nat,∃ a z aa tr tm ps,vs=[.ref p,.ref b,.ref lt]/\bZ H p/\aO H b aa tr tm ps/\Good aa.length (ps.map (·.2))/\(∀ x∈ps,x.2.t < 1000000000)/\cQ H lt aa.length s w a z/\a < 1000000000/\z < 1000000000 /\
 ∀ e H',Go p H H'->e<=1000000000->a < e->z < e->(∀ x∈ps,x.2.t < e)->Q (.int e) H'
structure tD (H:Hp) (b b':Addr) (e:Int) (lt lt':Addr) (x:L4) (aa:List Int) (tr tm:Addr) (ps:List (Addr×M4)) (iY eO:Addr) (qs:List (Addr×M4)):Prop where
 hb:aO H b aa tr tm ps
 dZ:aO H b' aa iY eO qs
 gd:Good aa.length (ps.map (·.2))
 lR:Good aa.length (qs.map (·.2))
 tu:Turn e (ps.map (·.2)) (qs.map (·.2))
 hL:Pa H aa.length (lt,x)
 WS:Pa H aa.length (lt',NQ e x)
theorem tD.br {H H':Hp}{b b':Addr}{e:Int}{lt lt':Addr}{x:L4}{aa:List Int}{tr tm:Addr}{ps:List (Addr×M4)}{iY eO:Addr}{qs:List (Addr×M4)}(w:tD H b b' e lt lt' x aa tr tm ps iY eO qs)(t:bN H H'):tD H' b b' e lt lt' x aa tr tm ps iY eO qs:=⟨w.hb.br t,w.dZ.br t,w.gd,w.lR,w.tu,w.hL.br t,w.WS.br t⟩
noncomputable def Si (T:Addr)(lp:Pos):Sp:=λvs H Q _=>∃ b b' e lt lt' x aa tr tm ps iY eO qs,vs=[.ref b,.ref b',.int e,.ref lt,.ref lt']/\tD H b b' e lt lt' x aa tr tm ps iY eO qs/\1<=aa.length/\aa.length<=12/\(∀ r∈aa,(0:Int)<=r/\r<=99)/\MT T lp kN H/\∀ H',cL T H H'->MT T lp kN H'->Q (.bl true) H'
noncomputable def Su:Sp:=λvs H Q _=>∃ b b' e lt lt' x aa tr tm ps iY eO qs,vs=[.ref b,.ref b',.ref lt,.ref lt']/\tD H b b' e lt lt' x aa tr tm ps iY eO qs/\aa.length<=12/\∀ H',aG H H'->Q (.bl true) H'
theorem PY {n:Nat}{ms:List M4}(g:Good n ms){x:L4}(h:bT ms x=true):∃ m,pP ms x.s x.a x.w x.z m:=by
 rcases Tn ms x.s x.a x.w x.z with h' | h'
 ·exact h'
 ·exact (To g h h').elim
end Sm
namespace L2
open PySem
set_option genInjectivity false
set_option genSizeOf false
structure Bk (X:Cx) (b:List Stmt) where
 t:TS
 ps:tE X b t
theorem cz {X:Cx}{b:List Stmt}{R:TS->Prop}(h:let Y:=X;∃ t,tE Y b t/\R t):∃ t,tE X b t/\R t:=h
theorem Bk.bl {X:Cx}{a:Stmt}{rest:List Stmt}(B:Bk X (a::rest)):NZ X (a::rest) B.t:=Uj B.ps
abbrev IV:=Nat->St->Hp->Prop
abbrev IC:=Nat->St->List V->Hp->Prop
def stP:Stmt:=.Pass ⟨0,0,0,0⟩
noncomputable def nb (l:List Stmt)(i:Nat):List Stmt:=match l.getD i stP with
 | .If _ a _ _=>a
 | .For _ _ a _ _=>a
 | .While _ a _ _=>a
 | _=>[]
noncomputable def ne (l:List Stmt)(i:Nat):List Stmt:=match l.getD i stP with
 | .If _ _ a _=>a
 | _=>[]
end L2
namespace Sm
open PySem L2
theorem cP:1002<=sizeLine:=by rw [sizeLine_eq];decide
end Sm


namespace L2
open PySem PySem.Spec PyProof.Rows
theorem bE {N P:List Str}{sc:Scope}(a:sc.kind=.function:=by rfl)(b:sc.isCoroutine=false:=by rfl)(c:sc.isGenerator=false:=by rfl)(d:N.Nodup:=by decide +kernel)(e:N.take P.length=P:=by rfl)(f:∀ x∈P,sc.names.lookup x=some .local∨sc.names.lookup x=some .cell:=by decide +kernel)(g:∀ y∈sc.names,y.2≠.free:=by decide +kernel):aF N P sc:=⟨a,b,c,d,e,f,g⟩
theorem gU {o:List Str}{c:List Nat}{N:List Str}{s p:Scope}(k:p.kind=.function:=by rfl)(a:∀ y∈p.names,y.2≠.cell:=by decide +kernel)(l:∀ y∈p.names,y.2=.local->p.names.lookup y.1=some .local:=by decide +kernel)(f:∀ y∈p.names,y.2=.free->s.names.lookup y.1=some .cell∨s.names.lookup y.1=some .free:=by decide +kernel)(g:∀ i∈c,i < N.length∧p.names.lookup ((N[i]?).getD Str.empty)=some .free:=by decide +kernel):aV o c N s p:=⟨k,a,l,f,g⟩
end L2
namespace Sm
open PySem L2
def top (i:Nat):Stmt:=PySem.Challenge.pw_satchelmeet_k92_whole_turned_in_time.main.body.getD i (.Pass ⟨0,0,0,0⟩)
abbrev Mr:Stmt:=top 0
abbrev qb:Stmt:=top 56
abbrev qo:Stmt:=top 57
abbrev EG:Stmt:=top 58
abbrev qd:Stmt:=top 59
abbrev qp:Stmt:=top 60
abbrev wU:Stmt:=top 61
abbrev Fo:Stmt:=top 62
abbrev qB:Stmt:=top 63
abbrev Eh:Stmt:=top 64
abbrev F9:Stmt:=top 7
abbrev Fl:Stmt:=top 8
abbrev G0:Stmt:=top 9
abbrev Ga:Stmt:=top 10
abbrev GZ:Stmt:=top 11
abbrev G1:Stmt:=top 12
abbrev Ee:Stmt:=top 19
abbrev qe:Stmt:=top 20
abbrev wf:Stmt:=top 21
abbrev DX:Stmt:=top 22
abbrev qC:Stmt:=top 18
abbrev qi:Stmt:=top 23
abbrev Fm:Stmt:=top 24
abbrev FG:Stmt:=top 25
abbrev GY:Stmt:=top 26
abbrev F8:Stmt:=top 27
abbrev EE:Stmt:=top 28
abbrev DW:Stmt:=top 32
abbrev Et:Stmt:=top 30
abbrev Fk:Stmt:=top 31
abbrev qD:Stmt:=inClass (top 48) 0
abbrev qg:Stmt:=inClass (top 48) 1
abbrev Ei:Stmt:=inClass (top 48) 3
abbrev wr:Stmt:=inClass (top 48) 5
abbrev qL:Stmt:=inClass (top 48) 6
abbrev qj:Stmt:=inClass (top 48) 2
abbrev F7:Stmt:=inClass (top 48) 4
abbrev DG:Stmt:=top 34
abbrev qA:Stmt:=top 44
abbrev Dc:Stmt:=top 42
abbrev qX:Stmt:=top 43
abbrev EF:Stmt:=top 53
abbrev wZ:Stmt:=top 52
abbrev D1:Stmt:=top 54
abbrev qR:Stmt:=top 51
abbrev qx:Stmt:=top 50
abbrev qh:Stmt:=top 65
abbrev DF:Stmt:=top 37
abbrev qk:Stmt:=top 36
abbrev ED:Stmt:=top 40
abbrev qz:Stmt:=top 39
abbrev DH:Stmt:=top 38
abbrev DY:Stmt:=top 46
abbrev EH:Stmt:=top 66
abbrev DO:Stmt:=top 67
abbrev wz:Stmt:=top 68
abbrev D2:Stmt:=top 69
abbrev qJ:Stmt:=top 70
abbrev w8:Stmt:=top 71
abbrev DZ:Stmt:=top 72
def dN:Pos:=⟨41,49,41,77⟩
set_option genInjectivity false
set_option genSizeOf false
structure Ad where
 Eg:Addr
 FK:FuncData
 Bb:Addr
 Cz:FuncData
 BB:Addr
 C3:FuncData
 Cf:Addr
 Dt:FuncData
 Ba:Addr
 Cy:FuncData
 BC:Addr
 C4:FuncData
 AA:Addr
 A4:FuncData
 BD:Addr
 C5:FuncData
 BA:Addr
 C2:FuncData
 AO:Addr
 BQ:FuncData
 Ca:Addr
 Do:FuncData
 Bw:Addr
 CW:FuncData
 C8:Addr
 DS:FuncData
 Cb:Addr
 Dp:FuncData
 C7:Addr
 DR:FuncData
 C9:Addr
 DT:FuncData
 Bz:Addr
 C0:FuncData
 A7:Addr
 Cu:FuncData
 Ah:Addr
 Ar:FuncData
 AG:Addr
 Bo:FuncData
 Bv:Addr
 Bt:FuncData
 Aj:Addr
 Aw:FuncData
 Bx:Addr
 CY:FuncData
 Da:Addr
 DU:FuncData
 FD:Addr
 Hj:FuncData
 BX:Addr
 Dk:FuncData
 BY:Addr
 Dl:FuncData
 AF:Addr
 Bn:FuncData
 C6:Addr
 DQ:FuncData
 DI:Addr
 Ew:FuncData
 Ai:Addr
 AI:FuncData
 Be:Addr
 CD:FuncData
 AQ:Addr
 BR:FuncData
 Au:Addr
 AY:FuncData
 Al:Addr
 Ax:FuncData
 AR:Addr
 BS:FuncData
 AT:Addr
 BT:FuncData
 By:Addr
 CZ:FuncData
 Ay:Addr
 A3:FuncData
 As:Addr
 AW:FuncData
 Cd:Addr
 Dr:FuncData
 Cc:Addr
 Dq:FuncData
 AM:Addr
 BO:FuncData
 Ce:Addr
 Ds:FuncData
 A5:Addr
 Cs:FuncData
 DJ:Addr
 Ex:FuncData
 A9:Addr
 Cw:FuncData
 Bu:Addr
 CV:FuncData
 AL:Addr
 BN:FuncData
 A6:Addr
 Ct:FuncData
 A8:Addr
 Cv:FuncData
 DK:Addr
 Ey:FuncData
 BZ:Addr
 Dm:FuncData
 Bc:Addr
 CB:FuncData
 Bd:Addr
 CC:FuncData
 At:Addr
 AX:FuncData
 Cg:Addr
 Du:FuncData
 AN:Addr
 BP:FuncData
 AH:Addr
 Bp:FuncData
 GS:Addr
 Kl:FuncData
 tC:Addr
 tP:Addr
 Aa:Addr
structure Tx (K:PySem.W.Frag) (mg:Str->Option Value) (a:Ad) (NY:Tok) (pN:Tok) (NW:Tok) (mF:Tok) (NX:Tok):Prop where
 FL:bA K "_wall" "_wall" Mr a.Eg a.FK
 M5:Binds K a.FK ["k"] []
 M2:mg "_wall" = some (.ref a.Eg)
 M3:zF K (.ref a.Eg)=true
 BK:bA K "_law_purse" "_law_purse" qb a.Bb a.Cz
 GO:Binds K a.Cz ["_law_script", "_law_k"] []
 GM:mg "_law_purse" = some (.ref a.Bb)
 GN:zF K (.ref a.Bb)=true
 Co:bA K "_law_take" "_law_take" qo a.BB a.C3
 Af:Binds K a.C3 ["_law_purse_here", "_law_many"] []
 Ac:mg "_law_take" = some (.ref a.BB)
 Ae:zF K (.ref a.BB)=true
 CT:bA K "_law_far" "_law_far" EG a.Cf a.Dt
 L6:Binds K a.Dt ["_law_purse_here"] []
 LU:mg "_law_far" = some (.ref a.Cf)
 LY:zF K (.ref a.Cf)=true
 BJ:bA K "_law_rooms" "_law_rooms" qd a.Ba a.Cy
 KP:Binds K a.Cy ["_law_purse_here", "_law_walkers"] []
 Ky:mg "_law_rooms" = some (.ref a.Ba)
 KH:zF K (.ref a.Ba)=true
 Cp:bA K "_law_step" "_law_step" qp a.BC a.C4
 Ly:Binds K a.C4 ["_law_purse_here"] []
 Ln:mg "_law_step" = some (.ref a.BC)
 Ls:zF K (.ref a.BC)=true
 AK:bA K "_law_meetings" "_law_meetings" wU a.AA a.A4
 Il:Binds K a.A4 ["_law_purse_here", "_law_walkers", "_law_most"] []
 Ij:mg "_law_meetings" = some (.ref a.AA)
 Ik:zF K (.ref a.AA)=true
 Cq:bA K "_law_book" "_law_book" Fo a.BD a.C5
 Lz:Binds K a.C5 ["_law_purse_here", "_law_most_walkers", "_law_most_meetings"] []
 Lo:mg "_law_book" = some (.ref a.BD)
 Lu:zF K (.ref a.BD)=true
 Cn:bA K "_law_time" "_law_time" qB a.BA a.C2
 HZ:Binds K a.C2 ["_law_purse_here", "_law_book_here", "_law_later"] []
 HN:mg "_law_time" = some (.ref a.BA)
 HU:zF K (.ref a.BA)=true
 Bj:bA K "_law_letter" "_law_letter" Eh a.AO a.BQ
 JR:Binds K a.BQ ["_law_purse_here", "_law_book_here"] []
 JJ:mg "_law_letter" = some (.ref a.AO)
 JN:zF K (.ref a.AO)=true
 CM:bA K "is_whole" "is_whole" F9 a.Ca a.Do
 Jg:Binds K a.Do ["thing"] []
 IM:mg "is_whole" = some (.ref a.Ca)
 IY:zF K (.ref a.Ca)=true
 Cj:bA K "is_within" "is_within" Fl a.Bw a.CW
 Bs:Binds K a.CW ["thing", "least", "most"] []
 Bq:mg "is_within" = some (.ref a.Bw)
 Br:zF K (.ref a.Bw)=true
 Dx:bA K "is_time" "is_time" G0 a.C8 a.DS
 Kk:Binds K a.DS ["thing"] []
 Kg:mg "is_time" = some (.ref a.C8)
 Ki:zF K (.ref a.C8)=true
 CO:bA K "is_below" "is_below" Ga a.Cb a.Dp
 Jh:Binds K a.Dp ["number", "bound"] []
 IN:mg "is_below" = some (.ref a.Cb)
 IZ:zF K (.ref a.Cb)=true
 Dw:bA K "is_upto" "is_upto" GZ a.C7 a.DR
 Hb:Binds K a.DR ["number", "bound"] []
 G6:mg "is_upto" = some (.ref a.C7)
 G9:zF K (.ref a.C7)=true
 Dy:bA K "is_from" "is_from" G1 a.C9 a.DT
 MA:Binds K a.DT ["number", "bound"] []
 Mx:mg "is_from" = some (.ref a.C9)
 My:zF K (.ref a.C9)=true
 Cm:bA K "are_rooms" "are_rooms" Ee a.Bz a.C0
 Lx:Binds K a.C0 ["thing"] []
 Lm:mg "are_rooms" = some (.ref a.Bz)
 Lr:zF K (.ref a.Bz)=true
 BG:bA K "is_meeting" "is_meeting" qe a.A7 a.Cu
 KM:Binds K a.Cu ["walkers", "thing"] []
 Kv:mg "is_meeting" = some (.ref a.A7)
 KD:zF K (.ref a.A7)=true
 Ao:bA K "meets_twice_at_once" "meets_twice_at_once" wf a.Ah a.Ar
 Fb:Binds K a.Ar ["meetings"] []
 E9:mg "meets_twice_at_once" = some (.ref a.Ah)
 Fa:zF K (.ref a.Ah)=true
 A0:bA K "lesser_first" "lesser_first" DX a.AG a.Bo
 Jf:Binds K a.Bo ["meeting"] []
 IL:mg "lesser_first" = some (.ref a.AG)
 IW:zF K (.ref a.AG)=true
 Ci:bA K "made_book" "made_book" qC a.Bv a.Bt
 HW:Binds K a.Bt ["rooms", "meetings"] []
 HK:mg "made_book" = some (.ref a.Bv)
 HQ:zF K (.ref a.Bv)=true
 Ap:bA K "is_meeting_number" "is_meeting_number" qi a.Aj a.Aw
 FO:Binds K a.Aw ["book", "thing"] []
 FM:mg "is_meeting_number" = some (.ref a.Aj)
 FN:zF K (.ref a.Aj)=true
 Ck:bA K "is_walker" "is_walker" Fm a.Bx a.CY
 HX:Binds K a.CY ["book", "thing"] []
 HL:mg "is_walker" = some (.ref a.Bx)
 HR:zF K (.ref a.Bx)=true
 Dz:bA K "by_time" "by_time" FG a.Da a.DU
 FJ:Binds K a.DU ["book", "time"] []
 FH:mg "by_time" = some (.ref a.Da)
 FI:zF K (.ref a.Da)=true
 Gw:bA K "ways" "ways" GY a.FD a.Hj
 Jb:Binds K a.Hj ["book"] []
 IH:mg "ways" = some (.ref a.FD)
 IR:zF K (.ref a.FD)=true
 CJ:bA K "other_at" "other_at" F8 a.BX a.Dk
 Jd:Binds K a.Dk ["book", "number", "walker"] []
 IJ:mg "other_at" = some (.ref a.BX)
 IT:zF K (.ref a.BX)=true
 CK:bA K "lone_row" "lone_row" EE a.BY a.Dl
 Gf:Binds K a.Dl ["book", "walker", "number"] []
 Gd:mg "lone_row" = some (.ref a.BY)
 Ge:zF K (.ref a.BY)=true
 AZ:bA K "need_meeting" "need_meeting" DW a.AF a.Bn
 Je:Binds K a.Bn ["book", "meeting"] []
 IK:mg "need_meeting" = some (.ref a.AF)
 IU:zF K (.ref a.AF)=true
 Dv:bA K "without" "without" Et a.C6 a.DQ
 Kj:Binds K a.DQ ["book", "meeting"] []
 Kf:mg "without" = some (.ref a.C6)
 Kh:zF K (.ref a.C6)=true
 D8:bA K "turned" "turned" Fk a.DI a.Ew
 Lv:Binds K a.Ew ["book", "end"] []
 Lk:mg "turned" = some (.ref a.DI)
 Lp:zF K (.ref a.DI)=true
 Aq:bA K "__init__" "Stream.__init__" qD a.Ai a.AI
 GQ:Binds K a.AI ["self", "many"] []
 Mt:Meth K a.Aa "__init__" a.Ai
 Ms:zF K (.ref a.Ai)=true
 Bf:bA K "tie" "Stream.tie" qg a.Be a.CD
 GP:Binds K a.CD ["self", "here", "there", "most"] []
 GT:Meth K a.Aa "tie" a.Be
 MU:zF K (.ref a.Be)=true
 AU:bA K "sent" "Stream.sent" Ei a.AQ a.BR
 JS:Binds K a.BR ["self", "tie"] []
 J1:Meth K a.Aa "sent" a.AQ
 MO:zF K (.ref a.AQ)=true
 Av:bA K "came_to" "Stream.came_to" wr a.Au a.AY
 Ev:Binds K a.AY ["self", "goal"] []
 Ez:Meth K a.Aa "came_to" a.Au
 Mz:zF K (.ref a.Au)=true
 Am:bA K "sent_along" "Stream.sent_along" qL a.Al a.Ax
 FP:Binds K a.Ax ["self", "came", "goal"] []
 FS:Meth K a.Aa "sent_along" a.Al
 LP:zF K (.ref a.Al)=true
 AV:bA K "send" "Stream.send" qj a.AR a.BS
 JT:Binds K a.BS ["self", "source", "goal"] []
 J5:Meth K a.Aa "send" a.AR
 MP:zF K (.ref a.AR)=true
 Bl:bA K "near" "Stream.near" F7 a.AT a.BT
 MR:Binds K a.BT ["self"] []
 MS:Meth K a.Aa "near" a.AT
 MQ:zF K (.ref a.AT)=true
 Cl:bA K "is_letter" "is_letter" DG a.By a.CZ
 HY:Binds K a.CZ ["book", "thing"] []
 HM:mg "is_letter" = some (.ref a.By)
 HS:zF K (.ref a.By)=true
 AJ:bA K "first_givings" "first_givings" qA a.Ay a.A3
 E8:Binds K a.A3 ["book", "sender", "since"] []
 E6:mg "first_givings" = some (.ref a.Ay)
 E7:zF K (.ref a.Ay)=true
 AC:bA K "earliest_times" "earliest_times" Dc a.As a.AW
 Dh:Binds K a.AW ["book", "sender", "since"] []
 De:mg "earliest_times" = some (.ref a.As)
 Df:zF K (.ref a.As)=true
 CQ:bA K "earliest" "earliest" qX a.Cd a.Dr
 EM:Binds K a.Dr ["book", "letter"] []
 EJ:mg "earliest" = some (.ref a.Cd)
 EK:zF K (.ref a.Cd)=true
 CP:bA K "giver_of" "giver_of" EF a.Cc a.Dq
 L5:Binds K a.Dq ["meeting", "sent"] []
 LT:mg "giver_of" = some (.ref a.Cc)
 LX:zF K (.ref a.Cc)=true
 Bh:bA K "givers_sent" "givers_sent" wZ a.AM a.BO
 JP:Binds K a.BO ["book", "letter"] []
 JH:mg "givers_sent" = some (.ref a.AM)
 JL:zF K (.ref a.AM)=true
 CS:bA K "chain_by" "chain_by" D1 a.Ce a.Ds
 Ji:Binds K a.Ds ["book", "letter", "givers"] []
 IO:mg "chain_by" = some (.ref a.Ce)
 I0:zF K (.ref a.Ce)=true
 BE:bA K "two_chains" "two_chains" qR a.A5 a.Cs
 KK:Binds K a.Cs ["book", "letter"] []
 Kt:mg "two_chains" = some (.ref a.A5)
 KB:zF K (.ref a.A5)=true
 D9:bA K "stands" "stands" qx a.DJ a.Ex
 Jc:Binds K a.Ex ["book", "letter"] []
 II:mg "stands" = some (.ref a.DJ)
 IS:zF K (.ref a.DJ)=true
 BI:bA K "_law_times" "_law_times" qh a.A9 a.Cw
 KO:Binds K a.Cw ["_law_book_here", "_law_sender", "_law_since"] []
 Kx:mg "_law_times" = some (.ref a.A9)
 KG:zF K (.ref a.A9)=true
 Ch:bA K "row_after" "row_after" DF a.Bu a.CV
 HV:Binds K a.CV ["book", "row"] []
 HJ:mg "row_after" = some (.ref a.Bu)
 HP:zF K (.ref a.Bu)=true
 Bg:bA K "giving_rows" "giving_rows" qk a.AL a.BN
 JO:Binds K a.BN ["book", "sender", "since"] []
 JG:mg "giving_rows" = some (.ref a.AL)
 JK:zF K (.ref a.AL)=true
 BF:bA K "meeting_at" "meeting_at" ED a.A6 a.Ct
 KL:Binds K a.Ct ["book", "walker", "time"] []
 Ku:mg "meeting_at" = some (.ref a.A6)
 KC:zF K (.ref a.A6)=true
 BH:bA K "chain_back" "chain_back" qz a.A8 a.Cv
 KN:Binds K a.Cv ["book", "rows", "wish"] []
 Kw:mg "chain_back" = some (.ref a.A8)
 KF:zF K (.ref a.A8)=true
 Ea:bA K "fewest" "fewest" DH a.DK a.Ey
 Lw:Binds K a.Ey ["book", "letter"] []
 Ll:mg "fewest" = some (.ref a.DK)
 Lq:zF K (.ref a.DK)=true
 CL:bA K "leavings" "leavings" DY a.BZ a.Dm
 L3:Binds K a.Dm ["book", "wish", "last"] []
 LS:mg "leavings" = some (.ref a.BZ)
 LW:zF K (.ref a.BZ)=true
 BL:bA K "_law_comes" "_law_comes" EH a.Bc a.CB
 KQ:Binds K a.CB ["_law_book_here", "_law_sender", "_law_since", "_law_wish", "_law_last"] []
 Kz:mg "_law_comes" = some (.ref a.Bc)
 KI:zF K (.ref a.Bc)=true
 BM:bA K "_law_below" "_law_below" DO a.Bd a.CC
 KR:Binds K a.CC ["_law_book_here"] []
 KA:mg "_law_below" = some (.ref a.Bd)
 KJ:zF K (.ref a.Bd)=true
 AD:bA K "_law_other_way" "_law_other_way" wz a.At a.AX
 Hc:Binds K a.AX ["_law_book_here", "_law_end_here"] []
 G7:mg "_law_other_way" = some (.ref a.At)
 Ha:zF K (.ref a.At)=true
 CU:bA K "_law_end" "_law_end" D2 a.Cg a.Du
 L7:Binds K a.Du ["_law_purse_here", "_law_book_here", "_law_letter_here"] []
 LV:mg "_law_end" = some (.ref a.Cg)
 LZ:zF K (.ref a.Cg)=true
 Bi:bA K "_law_needed" "_law_needed" qJ a.AN a.BP
 JQ:Binds K a.BP ["_law_book_here", "_law_behind", "_law_end_here", "_law_letter_here", "_law_back"] []
 JI:mg "_law_needed" = some (.ref a.AN)
 JM:zF K (.ref a.AN)=true
 A2:bA K "_law_as_many" "_law_as_many" w8 a.AH a.Bp
 Jj:Binds K a.Bp ["_law_book_here", "_law_behind", "_law_letter_here", "_law_back"] []
 IQ:mg "_law_as_many" = some (.ref a.AH)
 Ja:zF K (.ref a.AH)=true
 Ie:bA K "law" "law" DZ a.GS a.Kl
 M7:Binds K a.Kl ["_law_script"] []
 M6:mg "law" = some (.ref a.GS)
 aeV:zF K (.ref a.GS)=true
 aa8:mg "all" = none
 YY:mg "bool" = none
 dc:mg "enumerate" = none
 aa7:mg "int" = none
 cE:mg "isinstance" = none
 cH:mg "len" = none
 pL:mg "list" = none
 NR:mg "max" = none
 pK:mg "min" = none
 f9:mg "range" = none
 aa6:mg "set" = none
 pJ:mg "sorted" = none
 eK:mg "tuple" = none
 acf:PySem.W.codeHdIn K a.tC a.tP=true
 acg:a.Bt.code=.ref a.tC
 MJ:mg "Stream" = some (.ref a.Aa)
 Ag:Uv K a.Aa
 MN:L2.Mk K a.Aa a.Ai
 cg:dU K a.Aa "source"
 cW:dU K a.Aa "arcs"
 cI:dU K a.Aa "ends"
 bO:dU K a.Aa "spare"
 gZ:mg "LAST_TIME" = some (.int 1000000000 NY)
 pD:mg "MOST_WALKERS" = some (.int 12 pN)
 NL:mg "MOST_ROOM" = some (.int 99 NW)
 mD:mg "MOST_MEETINGS" = some (.int 60 mF)
 NN:mg "MOST_MANY" = some (.int 99 NX)
section
theorem F3:aF ["_law_script", "_law_k", "_law_cell", "_law_left"] ["_law_script", "_law_k"] (aB qb):=L2.bE
theorem GE:aF ["_law_purse_here", "_law_many", "_law_digit", "_law_mixed"] ["_law_purse_here", "_law_many"] (aB qo):=L2.bE
theorem HD:aF ["_law_purse_here", "_law_high"] ["_law_purse_here"] (aB EG):=L2.bE
theorem F1:aF ["_law_purse_here", "_law_walkers", "_law_rooms_here", "_law_walker", "_law_room"] ["_law_purse_here", "_law_walkers"] (aB qd):=L2.bE
theorem GF:aF ["_law_purse_here", "_law_way"] ["_law_purse_here"] (aB qp):=L2.bE
theorem Es:aF ["_law_purse_here", "_law_walkers", "_law_most", "_law_found", "_law_when", "_law_busy", "_law_k", "_law_one", "_law_other", "_law_gap", "_law_passed", "_law_late"] ["_law_purse_here", "_law_walkers", "_law_most"] (aB wU):=L2.bE
theorem GG:aF ["_law_purse_here", "_law_most_walkers", "_law_most_meetings", "_law_walkers", "_law_most"] ["_law_purse_here", "_law_most_walkers", "_law_most_meetings"] (aB Fo):=L2.bE
theorem GD:aF ["_law_purse_here", "_law_book_here", "_law_later", "_law_way", "_law_at"] ["_law_purse_here", "_law_book_here", "_law_later"] (aB qB):=L2.bE
theorem Fh:aF ["_law_purse_here", "_law_book_here", "_law_walkers", "_law_sender", "_law_wish", "_law_since"] ["_law_purse_here", "_law_book_here"] (aB Eh):=L2.bE
theorem Ht:aF ["thing"] ["thing"] (aB F9):=L2.bE
theorem Gz:aF ["thing", "least", "most"] ["thing", "least", "most"] (aB Fl):=L2.bE
theorem Iv:aF ["thing"] ["thing"] (aB G0):=L2.bE
theorem Hu:aF ["number", "bound"] ["number", "bound"] (aB Ga):=L2.bE
theorem Ir:aF ["number", "bound"] ["number", "bound"] (aB GZ):=L2.bE
theorem Iw:aF ["number", "bound"] ["number", "bound"] (aB G1):=L2.bE
theorem GC:aF ["thing"] ["thing"] (aB Ee):=L2.bE
theorem FX:aF ["walkers", "thing", "one", "other", "when", "many"] ["walkers", "thing"] (aB qe):=L2.bE
theorem Db:aF ["meetings", "seen", "one", "other", "when", "many"] ["meetings"] (aB wf):=L2.bE
theorem E4:aF ["meeting", "one", "other", "when", "many"] ["meeting"] (aB DX):=L2.bE
theorem Gy:aF ["rooms", "meetings", "meeting", "told"] ["rooms", "meetings"] (aB qC):=L2.bE
theorem DD:aF ["book", "thing"] ["book", "thing"] (aB qi):=L2.bE
theorem GA:aF ["book", "thing"] ["book", "thing"] (aB Fm):=L2.bE
theorem Ix:aF ["book", "time"] ["book", "time"] (aB FG):=L2.bE
theorem Mq:aF ["book", "told", "number", "one", "other", "when", "many"] ["book"] (aB GY):=L2.bE
theorem Hq:aF ["book", "number", "walker", "one", "other", "when", "many"] ["book", "number", "walker"] (aB F8):=L2.bE
theorem Hr:aF ["book", "walker", "number"] ["book", "walker", "number"] (aB EE):=L2.bE
theorem EZ:aF ["book", "meeting"] ["book", "meeting"] (aB DW):=L2.bE
theorem Iq:aF ["book", "meeting", "rooms", "meetings"] ["book", "meeting"] (aB Et):=L2.bE
theorem Kc:aF ["book", "end", "rooms", "meetings"] ["book", "end"] (aB Fk):=L2.bE
theorem DV:aF ["self", "many"] ["self", "many"] (aB qD):=L2.bE
theorem F6:aF ["self", "here", "there", "most", "number"] ["self", "here", "there", "most"] (aB qg):=L2.bE
theorem Fi:aF ["self", "tie"] ["self", "tie"] (aB Ei):=L2.bE
theorem Ed:aF ["self", "goal", "came", "points", "place", "point", "arc", "end"] ["self", "goal"] (aB wr):=L2.bE
theorem DE:aF ["self", "came", "goal", "way", "point", "arc", "most"] ["self", "came", "goal"] (aB qL):=L2.bE
theorem Fj:aF ["self", "source", "goal", "total", "came"] ["self", "source", "goal"] (aB qj):=L2.bE
theorem GB:aF ["book", "thing", "sender", "since", "wish", "last"] ["book", "thing"] (aB DG):=L2.bE
theorem Er:aF ["book", "sender", "since", "times", "came", "number", "giver", "other", "when"] ["book", "sender", "since"] (aB qA):=L2.bE
theorem Eb:aF ["book", "sender", "since", "times", "came"] ["book", "sender", "since"] (aB Dc):=L2.bE
theorem Hw:aF ["book", "letter", "sender", "since", "wish", "last", "times", "came", "chain", "walker", "number"] ["book", "letter"] (aB qX):=L2.bE
theorem Hv:aF ["meeting", "sent", "one", "other", "when", "many", "there", "back"] ["meeting", "sent"] (aB EF):=L2.bE
theorem Ff:aF ["book", "letter", "sender", "since", "wish", "last", "walkers", "stream", "ties", "number", "giver", "other", "when", "point", "sent"] ["book", "letter"] (aB wZ):=L2.bE
theorem Hy:aF ["book", "letter", "givers", "sender", "since", "wish", "last", "holder", "chain", "number"] ["book", "letter", "givers"] (aB D1):=L2.bE
theorem FV:aF ["book", "letter", "givers", "one", "rest"] ["book", "letter"] (aB qR):=L2.bE
theorem Kd:aF ["book", "letter", "sender", "since", "wish", "last", "chain", "number", "rest", "one", "other"] ["book", "letter"] (aB qx):=L2.bE
theorem FZ:aF ["_law_book_here", "_law_sender", "_law_since", "_law_found", "_law_one", "_law_other", "_law_when", "_law_passed", "_law_giver", "_law_taker"] ["_law_book_here", "_law_sender", "_law_since"] (aB qh):=L2.bE
theorem Gx:aF ["book", "row", "following", "number", "giver", "other", "when"] ["book", "row"] (aB DF):=L2.bE
theorem Fe:aF ["book", "sender", "since", "rows", "following"] ["book", "sender", "since"] (aB qk):=L2.bE
theorem FW:aF ["book", "walker", "time", "number", "giver", "other", "when"] ["book", "walker", "time"] (aB ED):=L2.bE
theorem FY:aF ["book", "rows", "wish", "chain", "walker", "row", "number"] ["book", "rows", "wish"] (aB qz):=L2.bE
theorem Ke:aF ["book", "letter", "sender", "since", "wish", "last", "rows", "many", "row"] ["book", "letter"] (aB DH):=L2.bE
theorem Hs:aF ["book", "wish", "last", "left", "number", "giver", "other", "when"] ["book", "wish", "last"] (aB DY):=L2.bE
theorem F4:aF ["_law_book_here", "_law_sender", "_law_since", "_law_wish", "_law_last", "_law_time_here"] ["_law_book_here", "_law_sender", "_law_since", "_law_wish", "_law_last"] (aB EH):=L2.bE
theorem F5:aF ["_law_book_here"] ["_law_book_here"] (aB DO):=L2.bE
theorem Ec:aF ["_law_book_here", "_law_end_here", "_law_found"] ["_law_book_here", "_law_end_here"] (aB wz):=L2.bE
theorem HE:aF ["_law_purse_here", "_law_book_here", "_law_letter_here", "_law_least", "_law_room"] ["_law_purse_here", "_law_book_here", "_law_letter_here"] (aB D2):=L2.bE
theorem Fg:aF ["_law_book_here", "_law_behind", "_law_end_here", "_law_letter_here", "_law_back", "_law_told", "_law_again", "_law_one", "_law_other", "_law_when", "_law_passed", "_law_number"] ["_law_book_here", "_law_behind", "_law_end_here", "_law_letter_here", "_law_back"] (aB qJ):=L2.bE
theorem E5:aF ["_law_book_here", "_law_behind", "_law_letter_here", "_law_back", "_law_chains", "_law_comes_here"] ["_law_book_here", "_law_behind", "_law_letter_here", "_law_back"] (aB w8):=L2.bE
theorem MH:aF ["_law_script", "_law_book_here", "_law_k", "_law_purse_here", "_law_sender", "_law_since", "_law_wish", "_law_last", "_law_letter_here", "_law_end_here", "_law_back", "_law_behind", "_law_due", "_law_time_here"] ["_law_script"] (aB DZ):=L2.bE
variable (P:Program) (w:World) {K:PySem.W.Frag}{mg:Str->Option Value} (base:Heap) {a:Ad}{aA:Tok}{ak:Tok}{au:Tok}{ah:Tok}{av:Tok}(T:Tx K mg a aA ak au ah av)(B:bq mg base)
include T B
theorem MZ:aZ P w K mg base cB 1 a.Eg a.FK ["k"] (Pu):=⟨λ_ _ _ _ h=>h.elim,λ_ _ _ _ _ _ _ _ _ _ _ _ _ h=>h.elim⟩
theorem JC:aZ P w K mg base cB 1 a.Bb a.Cz ["_law_script", "_law_k"] (U7 K):=by
 refine T.BK.ok F3 (λvs H Q E h=>?_) (λbW A outer s H vs Q E hr h=>?_)
 ·obtain ⟨a,ns,k,rfl,_⟩:=h;rfl
 ·have nd:=F3.nd;have hu:=hr.units;obtain ⟨sa,ns,k,rfl,hS,hk,q⟩:=h;refine cz ?_;intro Y
  let B0:Bk Y ((aq qb).drop 5):=⟨_,(xw (wN (wL (wc (xu (xv (pv 3) (xv (wK fW (wK wb (wK wb (wK qI (pv 2) xy) (wK qI (pv 1) xy)) xy) xy) (xv xy wH rfl) rfl) rfl))))))⟩
  let B1:Bk Y ((aq qb).drop 3):=⟨_,(xw (wJ (wa (wM nV (pv 2) xy (aM _)) (xw (wN (wI (i:=3) nd rfl rfl (wK qH (SR N9 xy) (pv 2))))) wQ) (wJ (wa (wM WI (pv 2) (wK fc xy xy) (aM _)) (xw (wN (wI (i:=3) nd rfl rfl (pv 2)))) wQ) B0.bl)))⟩
  let B2:Bk Y ((aq qb).drop 1):=⟨_,(xw (wJ (wa (wM nV (pv 1) (wP (wR rfl) (by rfl) T.cH PySem.boot_len (xu (xv (pv 0) wH rfl))) (aM _)) (xw (wN (wI (i:=2) nd rfl rfl (wO (wS rfl) (pv 0) (pv 1) (λ_ _=>rfl))))) wQ) (wJ (wI (i:=3) nd rfl rfl xy) B1.bl)))⟩
  refine ⟨_,(xw (wJ (wI (i:=2) nd rfl rfl xy) B2.bl)),?_⟩;have c18:N1 10 18:=⟨by decide,by decide,by decide⟩;have s3:3<=sizeLine:=by rw [sizeLine_eq];decide
  have fin:∀ (x y:Int) p,H p=none->Q (.ref p) (upd H p (.lst [.int x,.int y,.int 0])):=λx y p hp=>q p _ hp ⟨x,y,0,xq⟩ (xx hp);have c69:∀ x:Int,RH x 69:=λx=>.inr ⟨by decide,by decide⟩;have adQ:∀ x:Int,RH x 40503:=λx=>.inr ⟨by decide,by decide⟩;refine (zr rfl (zr rfl ⟨sa,zr rfl ⟨.inl hS,aT rfl rfl (zr rfl (Q9 (fun σ H1=>∃ c:Int,σ=[some (.ref sa),some (.int k),some (.int c),none]/\H=H1) ?_ (λc k0=>?_) (λc=>⟨0,rfl,rfl⟩)))⟩⟩))
  ·rintro σ H1 ⟨c,rfl,rfl⟩;refine (zr rfl (aT rfl rfl (zr rfl (Q9 (fun σ H1=>∃ d:Int,σ=[some (.ref sa),some (.int k),some (.int c),some (.int d)]/\H=H1) ?_ (λz k0=>?_) (λz=>⟨0,rfl,rfl⟩)))))
   ·rintro σ H1 ⟨d,rfl,rfl⟩;refine (zr rfl (aT rfl rfl ⟨c18,aT rfl rfl (zr rfl (Q9 (fun σ H1=>∃ d:Int,σ=[some (.ref sa),some (.int k),some (.int c),some (.int d)]/\H=H1) ?_ (λz k0=>(zr rfl (k0 _ _ ⟨c,rfl,rfl⟩))) (λz=>⟨d,rfl,rfl⟩)))⟩));rintro σ H1 ⟨d,rfl,rfl⟩;exact (zr rfl (zr rfl (aT rfl rfl ⟨c69 _,zr rfl (aT rfl rfl ⟨adQ _,aT rfl rfl (aT rfl rfl (aT rfl rfl ⟨(by show (0:Int) < 2147483647;decide),s3,fin _ _⟩))⟩)⟩)))
   ·exact (zr rfl (zr rfl (aT rfl rfl (k0 _ _ (zr rfl rfl)))))
  ·have uA:k < ns.length:=by
    have:=of_decide_eq_true c;rw [zA] at this;omega
   exact (zr rfl (zr rfl ⟨sa,_,aT rfl rfl ⟨hS,wV (v:=V.int ns[k]) (by simp [uA]),k0 _ _ (zr rfl rfl)⟩⟩))
theorem qE:aZ P w K mg base cB 1 a.BB a.C3 ["_law_purse_here", "_law_many"] (Sf):=by
 refine T.Co.ok GE (λvs H Q E h=>?_) (λbW A outer s H vs Q E hr h=>?_)
 ·obtain ⟨p,n,rfl,_⟩:=h;rfl
 ·have nd:=GE.nd;have hu:=hr.units;obtain ⟨p,n,rfl,n0,n1,⟨x,y,z,hp⟩,q⟩:=h;refine cz ?_;intro Y
  let B0:Bk Y ((aq qo).drop 3):=⟨_,(xw (wJ (wI (i:=3) nd rfl rfl (wK fW (wK wb (wK wb (wK qI (pv 3) (pv 3)) (wK qI (wO (wS rfl) (pv 0) xy (λ_ _=>rfl)) xy)) (wO (wS rfl) (pv 0) xy (λ_ _=>rfl))) xy)) (wN (wL (wK fW (wK qr (wK fW (wK qI (pv 3) xy) xy) xy) (pv 1))))))⟩
  let B1:Bk Y ((aq qo).drop 2):=⟨_,(xw (wJ (wI (i:=3) nd rfl rfl (wK fW (wK qI (wK wb (wO (wS rfl) (pv 0) xy (λ_ _=>rfl)) (wK qI (wO (wS rfl) (pv 0) xy (λ_ _=>rfl)) xy)) xy) xy)) B0.bl))⟩
  let B2:Bk Y (nb (aq qo) 0):=⟨_,(xw (wJ (wI (i:=2) nd rfl rfl (wK fW (wO (wS rfl) (pv 0) xy (λ_ _=>rfl)) (pv 1))) (wJ (wu (wK qr (wO (wS rfl) (pv 0) xy (λ_ _=>rfl)) (pv 1)) (kK (pv 0) xy qq)) (wN (wL (pv 2))))))⟩
  refine ⟨_,(xw (wJ (wa (wM lK (wO (wS rfl) (pv 0) xy (λ_ _=>rfl)) xy (aM _)) B2.ps wQ) (wJ (ug (pv 0) xy (oO rfl) xy uw qq) B1.bl))),?_⟩;have hS:aU K H p _:=aU.of hp;have cm:∀ x c:Int,-(2 ^ 64) < c->c < 2 ^ 64->RH x c:=λx c h h'=>.inr ⟨h,h'⟩;refine (zr rfl ⟨p,_,aT rfl rfl ⟨hS,rfl,aT rfl rfl (zr rfl (dP (λh1=>?_) λh1=>?_))⟩⟩)
  ·refine (zr rfl ⟨p,_,aT rfl rfl ⟨hS,rfl,zr rfl (aT rfl rfl ⟨n0,?_⟩)⟩⟩);refine (zr rfl ⟨p,_,aT rfl rfl ⟨hS,rfl,zr rfl (aT rfl rfl ⟨⟨n0,n1⟩,zr rfl ⟨p,_,_,0,rfl,rfl,hp,rfl,?_⟩⟩)⟩⟩);exact (zr rfl (q _ _ (xC _ (by omega)) (yl _ n0) ⟨cL.set,_,_,_,xq⟩))
  ·refine (zr rfl ⟨p,_,aT rfl rfl ⟨hS,rfl,aT rfl rfl ⟨p,_,_,2,rfl,rfl,hp,rfl,?_⟩⟩⟩);have h2:(upd H p (HO.lst ([V.int x,V.int y,V.int z].set 2 (.int (z + 1))))) p=some (.lst [V.int x,V.int y,V.int (z + 1)]):=xq;have b2:cL p H (upd H p (HO.lst ([V.int x,V.int y,V.int z].set 2 (.int (z + 1))))):=cL.set;generalize upd H p (HO.lst ([V.int x,V.int y,V.int z].set 2 (.int (z + 1))))=H2 at h2 b2 ⊢;have hS2:aU K H2 p _:=aU.of h2;have big:(2147483647:Int) < 2 ^ 64:=by decide
   have low:-(2:Int) ^ 64 < 0:=by decide
   have pos:(0:Int) < 2147483647:=by decide
   refine (zr rfl ⟨p,_,aT rfl rfl ⟨hS2,rfl,zr rfl ⟨p,_,aT rfl rfl ⟨hS2,rfl,aT rfl rfl ⟨cm _ _ (by decide) (by decide),aT rfl rfl (aT rfl rfl ⟨cm _ _ (by decide) (by decide),aT rfl rfl ⟨(by show (0:Int) < 2147483647;decide),?_⟩⟩)⟩⟩⟩⟩⟩);have m0:=xC ((y + (z + 1) * 362437) * 48271) (show (2147483647:Int)≠0 by decide);have m1:=yl ((y + (z + 1) * 362437) * 48271) pos;refine (zr rfl (zr rfl (aT rfl rfl ⟨.inl ⟨Int.lt_of_lt_of_le low m0,Int.lt_trans m1 big⟩,zr rfl ⟨p,_,aT rfl rfl ⟨hS2,rfl,aT rfl rfl ⟨cm _ _ (by decide) (by decide),aT rfl rfl (zr rfl ⟨p,_,aT rfl rfl ⟨hS2,rfl,aT rfl rfl (aT rfl rfl ⟨(by show (0:Int) < 2147483629;decide),?_⟩)⟩⟩)⟩⟩⟩⟩)));refine (zr rfl (aT rfl rfl ⟨cm _ _ (by decide) (by decide),aT rfl rfl ⟨(by show (0:Int) < 2147483563;decide),aT rfl rfl ⟨⟨by decide,by decide⟩,zr rfl (aT rfl rfl ⟨n0,?_⟩)⟩⟩⟩));exact q _ _ (xC _ (by omega)) (yl _ n0) ⟨b2,_,_,_,h2⟩
theorem Li:aZ P w K mg base cB 2 a.Cf a.Dt ["_law_purse_here"] (ZQ):=by
 have Ab:=qE P w base T B;refine T.CT.ok HD (λvs H Q E h=>?_) (λbW A outer s H vs Q E hr h=>?_)
 ·obtain ⟨p,rfl,_⟩:=h;rfl
 ·have nd:=HD.nd;have hu:=hr.units;obtain ⟨p,rfl,hp,q⟩:=h;refine cz ?_;intro Y
  let B0:Bk Y ((aq EG).drop 1):=⟨_,(xw (wN (wL (wK fW (wK wb (wK qI (pv 1) xy) (wG Ab (hr.mono (by decide)) rfl T.Ac T.Ae T.Af .nil aC (xu (xv (pv 0) (xv xy wH rfl) rfl)))) (wK wb (wK fc xy xy) xy)))))⟩
  refine ⟨_,(xw (wJ (wI (i:=1) nd rfl rfl (wG Ab (hr.mono (by decide)) rfl T.Ac T.Ae T.Af .nil aC (xu (xv (pv 0) (xv xy wH rfl) rfl)))) B0.bl)),?_⟩;refine (zr rfl ⟨p,zr rfl ⟨by decide,by decide,hp,λd H1 d0 d1 g1=>(zr rfl (aT rfl rfl ⟨.inr ⟨by decide,by decide⟩,zr rfl ⟨p,zr rfl ⟨by decide,by decide,g1.2,λe H2 e0 e1 g2=>(aT rfl rfl (aT rfl rfl ⟨⟨by decide,by decide,by decide⟩,aT rfl rfl (aT rfl rfl ⟨(by show (0:Int) < 10 ^ Int.toNat 9 + 1;decide),?_⟩)⟩))⟩⟩⟩))⟩⟩);have e9:(10:Int) ^ Int.toNat 9 + 1=1000000001:=by decide
  rw [e9];exact q _ _ (xC _ (by decide)) (Int.lt_add_one_iff.mp (yl _ (by decide))) (g1.trans g2)
theorem JB:aZ P w K mg base cB 2 a.Ba a.Cy ["_law_purse_here", "_law_walkers"] (Pr):=by
 have Ab:=qE P w base T B;refine T.BJ.ok F1 (λvs H Q E h=>?_) (λbW A outer s H vs Q E hr h=>?_)
 ·obtain ⟨p,n,rfl,_⟩:=h;rfl
 ·have nd:=F1.nd;have hu:=hr.units;obtain ⟨p,n,rfl,hn,hp,q⟩:=h;refine cz ?_;intro Y
  let B0:Bk Y ((nb (aq qd) 1).drop 1):=⟨_,(xw (wJ (wa (wM cY (pv 4) xy (aM _)) (xw (wN (wI (i:=4) nd rfl rfl (wG Ab (hr.mono (by decide)) rfl T.Ac T.Ae T.Af .nil aC (xu (xv (pv 0) (xv xy wH rfl) rfl)))))) wQ) (wN (wv (dI zj zd zf wt (pv 2) (xu (xv (pv 4) wH rfl)))))))⟩
  let B1:Bk Y (nb (aq qd) 1):=⟨_,(xw (wJ (wI (i:=4) nd rfl rfl (wK qr (wG Ab (hr.mono (by decide)) rfl T.Ac T.Ae T.Af .nil aC (xu (xv (pv 0) (xv xy wH rfl) rfl))) xy)) B0.bl))⟩
  let B2:Bk Y ((aq qd).drop 1):=⟨_,(xw (wJ (qG PassesOwn.never rfl (fG rfl T.f9 (xu (xv (pv 1) wH rfl))) (wE (i:=3) nd rfl rfl) B1.ps) (wN (wL (qY (qT) (by rfl) T.eK yJ (xu (xv (pv 2) wH rfl)))))))⟩
  refine ⟨_,(xw (wJ (wI (i:=2) nd rfl rfl (wc qP)) B2.bl)),?_⟩;have line:1001<=sizeLine:=by rw [sizeLine_eq];decide
  refine ⟨za _,λl hl=>?_⟩;have npl:=hp.ne hl;refine (zr rfl (zr rfl ⟨by omega,by omega,?_⟩));refine (let W1:IV:=λi σ H2=>∃ v3 v4 rs,σ=[some (.ref p),some (.int n),some (.ref l),v3,v4]/\H2 l=some (.lst (List.map V.int rs))/\rs.length=i/\(∀ r∈rs,(0:Int)<=r/\r<=99)/\Go p H H2;fM (lo:=0) (n:=n) W1)
   ⟨_,_,[],rfl,xq,rfl,(λ_ z=>nomatch z),(Go.refl hp).new hl⟩ ?_ ?_
  ·rintro i σ H2 hi ⟨v3,v4,rs,rfl,h2,hlen,hr,go⟩;refine (zr rfl ⟨p,zr rfl ⟨by decide,by decide,go.2,λd H3 d0 d1 g3=>(aT rfl rfl ⟨⟨by decide,by decide⟩,?_⟩)⟩⟩);refine (zr rfl ⟨rfl,zr rfl (Q9 (fun σ H4=>∃ x:Int,σ=[some (.ref p),some (.int n),some (.ref l),some (.int (0 + (i:Int))),some (.int x)]/\0<=x/\x<=99/\Go p H2 H4) ?_ (λc k0=>(zr rfl ⟨p,zr rfl ⟨by decide,by decide,g3.2,λe H4 e0 e1 g4=>k0 _ _ ⟨e,rfl,e0,by omega,g3.trans g4⟩⟩⟩)) (λc=>(zr rfl ⟨by omega,by omega,g3⟩)))⟩);rintro σ H4 ⟨x,rfl,x0,x1,g4⟩;have h4:=g4.1 l _ npl h2;refine (zr rfl ⟨.inl ⟨rfl,_,aU.of h4⟩,zr rfl ⟨l,aT rfl rfl ⟨h4,by rw [zA];omega,_,_,rs++[x],rfl,by rw [xq,zE];rfl,by simp [hlen],λr RO=>?_,?_⟩⟩⟩)
   ·rcases zW.mp RO with h | h
    ·exact hr r h
    ·cases zJ.mp h;exact ⟨x0,x1⟩
   ·have g2:=go.trans g4;refine ⟨λb u nb e=>?_,?_⟩
    ·rw [wF (wC e hl)];exact g2.1 b u nb e
    ·obtain ⟨a,b,c,e⟩:=g2.2;exact ⟨a,b,c,by rw [wF npl.symm];exact e⟩
  ·rintro σ H2 ⟨v3,v4,rs,rfl,h2,hlen,hr,go⟩;exact (zr rfl ⟨l,zr rfl (.inl ⟨aU.of h2,λt ht=>q t rs _ (go.new ht) xq hlen hr⟩)⟩)
theorem Kr:aZ P w K mg base cB 2 a.BC a.C4 ["_law_purse_here"] (Xy):=by
 have Ab:=qE P w base T B;refine T.Cp.ok GF (λvs H Q E h=>?_) (λbW A outer s H vs Q E hr h=>?_)
 ·obtain ⟨p,rfl,_⟩:=h;rfl
 ·have nd:=GF.nd;have hu:=hr.units;obtain ⟨p,rfl,hp,q⟩:=h;refine cz ?_;intro Y
  let B0:Bk Y ((aq qp).drop 3):=⟨_,(xw (wN (wL (wK wb xy (wG Ab (hr.mono (by decide)) rfl T.Ac T.Ae T.Af .nil aC (xu (xv (pv 0) (xv (wK qI xy (wK fc xy xy)) wH rfl) rfl)))))))⟩
  let B1:Bk Y ((aq qp).drop 2):=⟨_,(xw (wJ (wa (wM cY (pv 1) xy (aM _)) (xw (wN (wL (wK wb xy (wG Ab (hr.mono (by decide)) rfl T.Ac T.Ae T.Af .nil aC (xu (xv (pv 0) (xv xy wH rfl) rfl))))))) wQ) B0.bl))⟩
  let B2:Bk Y ((aq qp).drop 1):=⟨_,(xw (wJ (wa (wM nV (pv 1) xy (aM _)) (xw (wN (wL (wO (wS rfl) (wc (xu (xv xy (xv xy (xv xy wH rfl) rfl) rfl))) (pv 1) (λ_ _=>rfl))))) wQ) B1.bl))⟩
  refine ⟨_,(xw (wJ (wI (i:=1) nd rfl rfl (wG Ab (hr.mono (by decide)) rfl T.Ac T.Ae T.Af .nil aC (xu (xv (pv 0) (xv xy wH rfl) rfl)))) B2.bl)),?_⟩;have s3:3<=sizeLine:=by rw [sizeLine_eq];decide
  refine (zr rfl ⟨p,zr rfl ⟨by decide,by decide,hp,λd H1 d0 d1 g1=>(zr rfl (aT rfl rfl (zr rfl (dP (λh1=>?_) λh1=>?_))))⟩⟩)
  ·obtain ⟨v,hv,v0,v1⟩:∃ v:Int,gb [V.int 0,V.int 1,V.int 1] d=some (V.int v)/\0<=v/\v<=1:=by
    obtain rfl | rfl | rfl:d=0\/d=1\/d=2:=by omega
    ·exact ⟨0,rfl,by decide,by decide⟩
    ·exact ⟨1,rfl,by decide,by decide⟩
    ·exact ⟨1,rfl,by decide,by decide⟩
   exact ⟨s3,λl hl=>(zr rfl (fk xq hv (q _ _ v0 (by omega) (g1.new hl))))⟩
  ·refine (zr rfl ⟨rfl,zr rfl (dP (λh2=>?_) λh2=>?_)⟩)
   ·exact (zr rfl ⟨p,zr rfl ⟨by decide,by decide,g1.2,λe H2 e0 e1 g2=>(aT rfl rfl (q _ _ (by omega) (by omega) (g1.trans g2)))⟩⟩)
   ·have e16:(16:Int) * 10 ^ Int.toNat 6=16000000:=by decide
    refine (zr rfl (aT rfl rfl ⟨⟨by decide,by decide,by decide⟩,aT rfl rfl ⟨.inl ⟨by decide,by decide⟩,p,zr rfl ⟨by decide,by decide,g1.2,λe H2 e0 e1 g2=>(aT rfl rfl (q _ _ (by omega) (by rw [e16] at e1;omega) (g1.trans g2)))⟩⟩⟩))
theorem G4:aZ P w K mg base cB 3 a.AA a.A4 ["_law_purse_here", "_law_walkers", "_law_most"] (nC):=by
 have Ab:=qE P w base T B;have LN:=Kr P w base T B;refine T.AK.ok Es (λvs H Q E h=>?_) (λbW A outer s H vs Q E hr h=>?_)
 ·obtain ⟨p,w,n,rfl,_⟩:=h;rfl
 ·have nd:=Es.nd;have hu:=hr.units;obtain ⟨p,w,n,rfl,hn,w9,hw,hp,q⟩:=h;refine cz ?_;intro Y
  let B0:Bk Y ((aq wU).drop 6):=⟨_,(xw (wN (wL (qY (qT) (by rfl) T.eK yJ (xu (xv (qQ (own:=["_law_when", "_law_one", "_law_other", "_law_passed"]) (caps:=[11]) rfl (show aV ["_law_when", "_law_one", "_law_other", "_law_passed"] [11] ["_law_purse_here", "_law_walkers", "_law_most", "_law_found", "_law_when", "_law_busy", "_law_k", "_law_one", "_law_other", "_law_gap", "_law_passed", "_law_late"] (aB wU) _ from L2.gU) (wn rfl (wP (pB) (by rfl) T.pJ PyProof.Rows.boot_sorted (xu (xv (pv 3) wH rfl)))) (λ_ _ _ _=>(wX (n:=4) rfl rfl (wD (wE (i:=0) (show List.Nodup (["_law_when", "_law_one", "_law_other", "_law_passed", "_law_late"]:List Str) from by decide +kernel) rfl rfl) (wD (wE (i:=1) (show List.Nodup (["_law_when", "_law_one", "_law_other", "_law_passed", "_law_late"]:List Str) from by decide +kernel) rfl rfl) (wD (wE (i:=2) (show List.Nodup (["_law_when", "_law_one", "_law_other", "_law_passed", "_law_late"]:List Str) from by decide +kernel) rfl rfl) (wD (wE (i:=3) (show List.Nodup (["_law_when", "_law_one", "_law_other", "_law_passed", "_law_late"]:List Str) from by decide +kernel) rfl rfl) wW)))))) (λ_ _ _ _=>qU) (λ_ _ _ _=>(wg (xu (xv (pv 1) (xv (pv 2) (xv (wK wb (pv 0) (pv 4)) (xv (pv 3) wH rfl) rfl) rfl) rfl))))) wH rfl))))))⟩
  let B1:Bk Y ((aq wU).drop 5):=⟨_,(xw (wJ (wa (PW.pt (eV (wM cY (wG Ab (hr.mono (by decide)) rfl T.Ac T.Ae T.Af .nil aC (xu (xv (pv 0) (xv xy wH rfl) rfl))) xy (aM _)) (dB (wM (S0 hu) (pv 3) (wc qP) (aM _))))) (xw (wN (wI (i:=11) nd rfl rfl (wK qH (wK fc xy xy) (pv 4))))) wQ) B0.bl))⟩
  let B2:Bk Y ((nb (aq wU) 3).drop 9):=⟨_,(xw (wN (wv (dI zj zd zf wt (pv 3) (xu (xv (wg (xu (xv (pv 4) (xv (wP (dD rfl) (by rfl) T.pK ya (xu (xv (pv 7) (xv (pv 8) wH rfl) rfl))) (xv (wP (iD rfl) (by rfl) T.NR yz (xu (xv (pv 7) (xv (pv 8) wH rfl) rfl))) (xv (pv 10) wH rfl) rfl) rfl) rfl))) wH rfl))))))⟩
  let B3:Bk Y (nb (nb (aq wU) 3) 8):=⟨_,(xw (wN (wI (i:=10) nd rfl rfl (wK wb xy (wG Ab (hr.mono (by decide)) rfl T.Ac T.Ae T.Af .nil aC (xu (xv (pv 0) (xv xy wH rfl) rfl)))))))⟩
  let B4:Bk Y ((nb (aq wU) 3).drop 8):=⟨_,(xw (wJ (wa (wM cY (wG Ab (hr.mono (by decide)) rfl T.Ac T.Ae T.Af .nil aC (xu (xv (pv 0) (xv xy wH rfl) rfl))) xy (aM _)) B3.ps wQ) B2.bl))⟩
  let B5:Bk Y ((nb (aq wU) 3).drop 7):=⟨_,(xw (wJ (wI (i:=10) nd rfl rfl (wK wb xy (wK qr (wG Ab (hr.mono (by decide)) rfl T.Ac T.Ae T.Af .nil aC (xu (xv (pv 0) (xv xy wH rfl) rfl))) xy))) B4.bl))⟩
  let B6:Bk Y ((nb (aq wU) 3).drop 4):=⟨_,(xw (wJ (wa (wM lK (pv 9) xy (aM _)) (xw (wN (wI (i:=5) nd rfl rfl (wc qP)))) wQ) (wJ (wI (i:=4) nd rfl rfl (wK wb (pv 4) (pv 9))) (wJ (wI (i:=5) nd rfl rfl (wK S2 (pv 5) (wc (xu (xv (pv 7) (xv (pv 8) wH rfl) rfl))))) B5.bl))))⟩
  let B7:Bk Y ((nb (aq wU) 3).drop 3):=⟨_,(xw (wJ (wa (PW.pt (iQ (wM (ja rfl) (pv 7) (pv 5) rfl) (eU (wM (ja rfl) (pv 8) (pv 5) rfl)))) (xw (wN (wI (i:=9) nd rfl rfl (wP (iD rfl) (by rfl) T.NR yz (xu (xv xy (xv (pv 9) wH rfl) rfl)))))) wQ) B6.bl))⟩
  let B8:Bk Y ((nb (aq wU) 3).drop 1):=⟨_,(xw (wJ (wI (i:=8) nd rfl rfl (wK fW (wK wb (wK wb (pv 7) xy) (wG Ab (hr.mono (by decide)) rfl T.Ac T.Ae T.Af .nil aC (xu (xv (pv 0) (xv (wK qH (pv 1) xy) wH rfl) rfl)))) (pv 1))) (wJ (wI (i:=9) nd rfl rfl (wG LN (hr.mono (by decide)) rfl T.Ln T.Ls T.Ly .nil aC (xu (xv (pv 0) wH rfl)))) B7.bl)))⟩
  let B9:Bk Y (nb (aq wU) 3):=⟨_,(xw (wJ (wI (i:=7) nd rfl rfl (wG Ab (hr.mono (by decide)) rfl T.Ac T.Ae T.Af .nil aC (xu (xv (pv 0) (xv (pv 1) wH rfl) rfl)))) B8.bl))⟩
  let B10:Bk Y ((aq wU).drop 2):=⟨_,(xw (wJ (wI (i:=5) nd rfl rfl (wc qP)) (wJ (qG PassesOwn.never rfl (fG rfl T.f9 (xu (xv (pv 2) wH rfl))) (wE (i:=6) nd rfl rfl) B9.ps) (wJ (wI (i:=11) nd rfl rfl xy) B1.bl))))⟩
  let B11:Bk Y ((aq wU).drop 1):=⟨_,(xw (wJ (wI (i:=4) nd rfl rfl (wK wb xy (wK qI (wK qr (wG Ab (hr.mono (by decide)) rfl T.Ac T.Ae T.Af .nil aC (xu (xv (pv 0) (xv xy wH rfl) rfl))) xy) (wG Ab (hr.mono (by decide)) rfl T.Ac T.Ae T.Af .nil aC (xu (xv (pv 0) (xv (wK fc xy xy) wH rfl) rfl)))))) B10.bl))⟩
  refine ⟨_,(xw (wJ (wI (i:=3) nd rfl rfl (wc qP)) B11.bl)),?_⟩;have line:1001<=sizeLine:=by rw [sizeLine_eq];decide
  have c7:N1 10 7:=⟨by decide,by decide,by decide⟩;have e7:(10:Int) ^ Int.toNat 7=10000000:=by decide
  have e64:(2:Int) ^ 64 > 1000:=by decide
  have Wh:(2:Int) ^ 200 > 1000:=by decide
  refine ⟨za _,λlf VZ=>?_⟩;have Uz:=hp.ne VZ;have hp1:bZ (upd H lf (.lst [])) p:=hp.new VZ;refine (zr rfl ⟨p,zr rfl ⟨by decide,by decide,hp1,λd H1 d0 d1 g1=>(aT rfl rfl ⟨⟨by decide,by decide⟩,zr rfl (aT rfl rfl ⟨c7,?_⟩)⟩)⟩⟩);refine ⟨p,zr rfl ⟨by decide,by decide,g1.2,λd2 H2 d20 d21 g2=>(aT rfl rfl ⟨.inl ⟨by omega,by omega⟩,aT rfl rfl ?_⟩)⟩⟩;rw [e7] at d21;refine ⟨za _,λlb WO=>?_⟩;have fr2:=g1.trans g2;have Yx:H2 lf=some (.lst []):=fr2.1 lf _ Uz xq;have go0:Go p H H2:=((Go.refl hp).new VZ).trans fr2;refine (zr rfl (zr rfl ⟨by omega,by omega,?_⟩));have wh0:1<=1 + d / 2 * d2/\1 + d / 2 * d2<=10000000:=by
   obtain h | h:d / 2=0\/d / 2=1:=by omega
   ·rw [h];omega
   ·rw [h];omega
  refine fM (lo:=0) (n:=n) (PvM p lf w n H)
   ⟨_,_,_,_,_,_,lb,[],[],rfl,by rw [wF (wC Yx WO)];exact Yx,xq,(wC Yx WO).symm,go0.2.ne WO,(λ_ z=>nomatch z),⟨(λ_ z=>nomatch z),.nil,(λ_ z=>nomatch z)⟩,rfl,by simp,wh0.1,(by have:=wh0.2;simpa using this),go0.new WO⟩ ?_ ?_
  ·rintro i σ H3 hi ⟨v6,v7,v8,v9,v10,wh,lb,bs,fs,rfl,YH,h3b,nbf,nbp,h3r,F,Ti,Yd,wh1,wh2,go⟩;have w2:2<=w:=by omega
   refine (zr rfl (zr rfl ⟨p,w,rfl,by omega,by omega,go.2,λone H4 o0 o1 g4=>?_⟩));refine (zr rfl (aT rfl rfl (zr rfl (zr rfl (aT rfl rfl ⟨p,zr rfl ⟨by omega,by omega,g4.2,λx H5 x0 x1 g5=>(aT rfl rfl (zr rfl (aT rfl rfl ⟨by omega,?_⟩)))⟩⟩)))));have ot:=XR o0 o1 x0 x1;refine (zr rfl ⟨p,rfl,g5.2,λgap H6 ain aim g6=>?_⟩);have g46:=g4.trans (g5.trans g6);have Rh:=g46.1 lb _ nbp h3b;have hf6:=g46.1 lf _ Uz YH;refine (zr rfl (zr rfl ⟨lb,zr rfl ⟨.inl (aU.of Rh),rfl,sO bs,zr rfl (acX (fun σ H7=>∃ gp:Int,σ=[some (.ref p),some (.int w),some (.int n),some (.ref lf),some (.int wh),some (.ref lb),some (.int (0 + (i:Int))),some (.int one),some (.int ((one + 1 + x) % w)),some (.int gp),v10,none]/\H6=H7/\0<=gp/\gp<=16000000/\(gp=0->one ∉ bs/\(one + 1 + x) % w ∉ bs)) ?_ (λc1 k0=>?_) (λc1 k0=>(zr rfl (zr rfl ⟨lb,zr rfl ⟨.inl (aU.of Rh),rfl,sO bs,zr rfl (kP (λc2=>?_) (λc2=>?_))⟩⟩))))⟩⟩))
   rotate_left
   ·exact (zr rfl (gJ rfl (k0 _ _ (zr rfl ⟨rfl,by split <;> omega,by split <;> omega,λz=>by split at z <;> omega⟩))))
   ·exact (zr rfl (gJ rfl (k0 _ _ (zr rfl ⟨rfl,by split <;> omega,by split <;> omega,λz=>by split at z <;> omega⟩))))
   ·have c1':one ∉ bs:=of_decide_eq_false (Ng.symm.trans c1);have c2':(one + 1 + x) % w ∉ bs:=of_decide_eq_false (Ng.symm.trans c2);exact k0 _ _ ⟨gap,rfl,rfl,by omega,by omega,λ_=>⟨c1',c2'⟩⟩
   rintro σ H7 ⟨gp,rfl,rfl,gp0,gp1,hg⟩;refine (zr rfl (aT rfl rfl (zr rfl (Q9 (fun σ H7=>∃ ly bz,σ=[some (.ref p),some (.int w),some (.int n),some (.ref lf),some (.int wh),some (.ref ly),some (.int (0 + (i:Int))),some (.int one),some (.int ((one + 1 + x) % w)),some (.int gp),v10,none]/\Go p H3 H7/\H7 ly=some (.lst (List.map V.int bz))/\ly≠p/\bz.length<=2 * i/\∀ z∈bs,gp=0->z∈bz) ?_ (λc3 k0=>⟨za _,λln Zk=>k0 _ _ ⟨ln,[],rfl,g46.new Zk,xq,g46.2.ne Zk,za _,λ_ _ z=>by have:=of_decide_eq_true c3;omega⟩⟩) (λc3=>⟨lb,bs,rfl,g46,Rh,nbp,Yd,λ_ z _=>z⟩)))));rintro σ H7 ⟨ly,bz,rfl,gy,hyb,nyp,ag5,V6⟩;have aif:=gy.1 lf _ Uz YH;refine (zr rfl (zr rfl (aT rfl rfl ?_)));refine (zr rfl (zr rfl (zr rfl ⟨by show 2<=sizeLine;omega,λl2 Rc=>?_⟩)));have g2':=gy.new (o:=HO.lst [V.int one,V.int ((one + 1 + x) % w)]) Rc;have aaq:=xx (o:=HO.lst [V.int one,V.int ((one + 1 + x) % w)]) Rc _ _ hyb;have h22:(upd H7 l2 (HO.lst [V.int one,V.int ((one + 1 + x) % w)])) l2=some (.lst [V.int one,V.int ((one + 1 + x) % w)]):=xq;generalize upd H7 l2 (HO.lst [V.int one,V.int ((one + 1 + x) % w)])=H8 at g2' aaq h22 ⊢;refine ⟨ly,l2,aT rfl rfl ⟨aaq,h22,(by simp only [zA,zU,yE];omega),λl3 hl3=>?_⟩⟩;have n3p:l3≠p:=g2'.2.ne hl3;have n3f:l3≠lf:=(wC (g2'.1 lf _ Uz YH) hl3).symm;have g3':=g2'.new (o:=HO.lst (List.map V.int bz++[V.int one,V.int ((one + 1 + x) % w)])) hl3;have aaR:(upd H8 l3 (HO.lst (List.map V.int bz++[V.int one,V.int ((one + 1 + x) % w)]))) l3=some (.lst (List.map V.int (bz++[one,(one + 1 + x) % w]))):=by rw [xq,zE];rfl
   generalize upd H8 l3 (HO.lst (List.map V.int bz++[V.int one,V.int ((one + 1 + x) % w)]))=H9 at g3' aaR ⊢;refine (zr rfl ⟨p,zr rfl ⟨by decide,by decide,g3'.2,λd4 Uu d40 d41 uE=>(aT rfl rfl ⟨⟨by decide,by decide⟩,aT rfl rfl ?_⟩)⟩⟩);refine (zr rfl ⟨p,zr rfl ⟨by decide,by decide,uE.2,λd5 H11 d50 d51 g11=>⟨rfl,zr rfl (Q9 (fun σ Xd=>∃ mm:Int,σ=[some (.ref p),some (.int w),some (.int n),some (.ref lf),some (.int (wh + gp)),some (.ref l3),some (.int (0 + (i:Int))),some (.int one),some (.int ((one + 1 + x) % w)),some (.int gp),some (.int mm),none]/\1<=mm/\mm<=99/\Go p H9 Xd) ?_ (λc5 k0=>(zr rfl ⟨p,zr rfl ⟨by decide,by decide,g11.2,λd6 Xd d60 d61 g12=>(aT rfl rfl (k0 _ _ (zr rfl ⟨by omega,by omega,(uE.trans g11).trans g12⟩)))⟩⟩)) (λc5=>(zr rfl ⟨by omega,by omega,uE.trans g11⟩)))⟩⟩⟩);rintro σ Xd ⟨mm,rfl,mm0,mm1,g12⟩;have YI:=g3'.trans g12;have hz:=YI.1 lf _ Uz YH;refine (zr rfl ⟨.inl ⟨rfl,_,aU.of hz⟩,zr rfl (zr rfl (zr rfl (gJ rfl (zr rfl (zr rfl (gJ rfl (zr rfl ⟨by show 4<=sizeLine;omega,λt ht=>⟨lf,aT rfl rfl ⟨(by rw [wF (wC hz ht)];exact hz),(by rw [zA];omega),?_⟩⟩⟩)))))))⟩);exact PvM.step Uz VZ F Ti (bs':=bz++[one,(one + 1 + x) % w]) (by simp only [zG,zU,yE];omega) wh1 wh2 hz (g12.1 l3 _ n3p aaR) n3f n3p (λa ha=>YI.br go.2 _ _ (h3r a ha)) (go.trans YI) ht gp0 gp1 o0 o1 ot.1 ot.2.1 ot.2.2 mm0 mm1 hg (λz hz1 hz2=>z4 _ (V6 z hz1 hz2)) (by simp) (by simp)
  ·rintro σ H3 ⟨v6,v7,v8,v9,v10,wh,lb,bs,fs,rfl,YH,h3b,nbf,nbp,h3r,F,Ti,Yd,wh1,wh2,go⟩;have c9:N1 10 9:=⟨by decide,by decide,by decide⟩;have e9:(10:Int) ^ Int.toNat 9=1000000000:=by decide
   refine (zr rfl ⟨p,zr rfl ⟨by decide,by decide,go.2,λd8 H4 _ _ g4=>⟨rfl,zr rfl (acZ (fun σ H5=>∃ jJ:Int,(∃ v6 v7 v8 v9 v10,σ=[some (.ref p),some (.int w),some (.int n),some (.ref lf),some (.int wh),some (.ref lb),v6,v7,v8,v9,v10,some (.int jJ)])/\Go p H3 H5/\0<=jJ/\(fs≠[]->wh + jJ<=1000000000)) ?_ (λc k0=>?_) (λc=>⟨0,⟨_,_,_,_,_,rfl⟩,g4,zb _,λ_=>by omega⟩))⟩⟩⟩)
   rotate_left
   ·have YF:=g4.1 lf _ Uz YH;refine (zr rfl ⟨za _,λl4 Yy=>⟨lf,l4,zr rfl ⟨rfl,aU.of (by rw [wF (wC YF Yy)];exact YF),aU.of xq,zr rfl (kP (λc2=>?_) (λc2=>?_))⟩⟩⟩)
    ·exact (aT rfl rfl ⟨c9,zr rfl (aT rfl rfl (k0 _ _ ⟨_,⟨_,_,_,_,_,rfl⟩,g4.new Yy,by rw [e9];omega,λ_=>by rw [e9];omega⟩))⟩)
    ·exact k0 _ _ ⟨0,⟨_,_,_,_,_,rfl⟩,g4.new Yy,zb _,λ_=>by omega⟩
   rintro σ Hz ⟨jJ,⟨v6',v7',v8',v9',af6,rfl⟩,gz,L0,L1⟩;have hz:=gz.1 lf _ Uz YH;refine (zr rfl ⟨lf,fs.map (λa=>(a.1,a.2.row)),rfl,?_,(by rw [zA];omega),(λa ha=>?_),λD qs hD pq sq=>?_⟩)
   ·rw [zo];exact aU.of hz
   ·obtain ⟨b,hb,rfl⟩:=zK.mp ha;exact ⟨gz.br go.2 _ _ (h3r b hb),by intro z;cases z⟩
   obtain ⟨rs,WE,srs,rfl⟩:=rX pq sq;refine ⟨D,rfl,⟨_,aU.of xq⟩,?_⟩;have lrs:rs.length=n:=by rw [WE.length_eq,Ti]
   have hDl:(upd Hz D (HO.lst (List.map (λa=>V.ref a.1) (List.map (λa:Addr×M4=>(a.1,a.2.row)) rs)))) D=some (.lst (rs.map λa=>V.ref a.1)):=by rw [xq,zo];rfl
   have rD:=λa (ha:a∈rs)=>(bN.new (o:=HO.lst (List.map (λa=>V.ref a.1) (List.map (λa:Addr×M4=>(a.1,a.2.row)) rs))) hD) _ _ (gz.br go.2 _ _ (h3r a (WE.mem_iff.mp ha)));have gD:=(go.trans gz).new (o:=HO.lst (List.map (λa=>V.ref a.1) (List.map (λa:Addr×M4=>(a.1,a.2.row)) rs))) hD;refine (let W2:IC:=λi τ acc H5=>∃ ps:List (Addr×M4),(∃ t0 t1 t2 t3,τ=[t0,t1,t2,t3,some (.int jJ)])/\acc=(ps.map λa=>V.ref a.1)/\(ps.map (·.2))=((rs.take i).map λa=>a.2.jJ jJ)/\dS H5 ps/\aG (upd Hz D (HO.lst (List.map (λa=>V.ref a.1) (List.map (λa:Addr×M4=>(a.1,a.2.row)) rs)))) H5;cU (K:=K) (a:=D) (xs:=rs.map λa=>V.ref a.1) W2)
    ?_ (by rw [zA];omega) ?_ ?_ ?_
   ·exact ⟨[],⟨_,_,_,_,rfl⟩,rfl,rfl,(λ_ z=>nomatch z),aG.refl _⟩
   ·rintro i τ acc H6 ⟨ps,⟨t0,t1,t2,t3,rfl⟩,rfl,Zs,rws,sm⟩;have:=congrArg List.length Zs;rw [zA,zA,zV] at this;exact ⟨by rw [zA];omega,sm.seq (aU.of hDl)⟩
   ·rintro i x τ acc H5 C hx ⟨ps,⟨t0,t1,t2,t3,rfl⟩,rfl,Zs,rws,sm⟩ hC;obtain ⟨r,hr,rfl⟩:=wY hx;have cy:=sm _ _ (rD r (zB hr));refine (pS cy (zr rfl (zr rfl (zr rfl (zr rfl (aT rfl rfl (zr rfl ⟨by show 4<=sizeLine;omega,λt ht=>hC _ _ _ ?_⟩)))))));refine ⟨ps++[(t,r.2.jJ jJ)],⟨_,_,_,_,rfl⟩,by rw [zE];rfl,by rw [zE,we hr,zE,Zs];rfl,λa ha=>?_,sm.trans (xx ht)⟩;rcases zW.mp ha with h | h
    ·exact xx ht _ _ (rws a h)
    ·cases zJ.mp h;exact xq
   ·rintro τ acc H6 ⟨ps,⟨t0,t1,t2,t3,rfl⟩,rfl,Zs,rws,sm⟩ lt c8;refine ⟨lt,zr rfl (.inl ⟨aU.of xq,λt ht=>q t ps _ (((gD.same sm).new c8).new ht) xq ((rws.br (bN.new c8)).br (bN.new ht)) ?_ ?_⟩)⟩
    ·rw [Zs,zA,zq];exact F.good (by omega) L0 L1 WE srs
    ·have:=congrArg List.length Zs;rw [zA,zA,zA,zq] at this;omega
theorem Ks:aZ P w K mg base cB 4 a.BD a.C5 ["_law_purse_here", "_law_most_walkers", "_law_most_meetings"] (XE):=by
 have Ab:=qE P w base T B;have Lb:=JB P w base T B;have Ip:=G4 P w base T B;refine T.Cq.ok GG (λvs H Q E h=>?_) (λbW A outer s H vs Q E hr h=>?_)
 ·obtain ⟨p,a,n,rfl,_⟩:=h;rfl
 ·have nd:=GG.nd;have hu:=hr.units;obtain ⟨p,aw,n,rfl,a1,a2,hn,hp,q⟩:=h;refine ⟨_,(xw (wJ (wI (i:=3) nd rfl rfl (wK wb xy (wG Ab (hr.mono (by decide)) rfl T.Ac T.Ae T.Af .nil aC (xu (xv (pv 0) (xv (pv 1) wH rfl) rfl))))) (wJ (wI (i:=4) nd rfl rfl (wG Ab (hr.mono (by decide)) rfl T.Ac T.Ae T.Af .nil aC (xu (xv (pv 0) (xv (wK wb (pv 2) xy) wH rfl) rfl)))) (wJ (wa (wM cY (pv 3) xy (aM _)) (xw (wN (wI (i:=4) nd rfl rfl xy))) wQ) (wN (wL (wg (xu (xv (wG Lb (hr.mono (by decide)) rfl T.Ky T.KH T.KP .nil aC (xu (xv (pv 0) (xv (pv 3) wH rfl) rfl))) (xv (wG Ip (hr.mono (by decide)) rfl T.Ij T.Ik T.Il .nil aC (xu (xv (pv 0) (xv (pv 3) (xv (pv 4) wH rfl) rfl) rfl))) wH rfl) rfl))))))))),?_⟩;have line:1001<=sizeLine:=by rw [sizeLine_eq];decide
  have Wh:(2:Int) ^ 200 > 1000:=by decide
  refine (zr rfl (zr rfl ⟨p,aw,rfl,by omega,by omega,hp,λd H1 d0 d1 g1=>(aT rfl rfl ?_)⟩));obtain ⟨k,rfl⟩:=zm d0;refine (zr rfl (zr rfl (aT rfl rfl ⟨p,zr rfl ⟨by omega,by omega,g1.2,λe H2 e0 e1 g2=>?_⟩⟩)));obtain ⟨m,rfl⟩:=zm e0;have hm:m<=n:=by omega
  have fin:∀ (m:Nat) t0,m<=n->(m=0\/1<=k)->t0=V.int m->∀ H2,Go p H H2->Pr [.ref p,.int (1 + (k:Int))] H2 (λx H1=>nC [.ref p,.int (1 + (k:Int)),t0] H1 (λy H3=>2<=sizeLine/\∀ b,H3 b=none->Q (.ref b) (upd H3 b (.tup [x,y]))) E0) E0:=by
   rintro m t0 hm hk rfl H2 g2;refine ⟨p,1 + k,by simp,by omega,g2.2,λtr aa H3 g3 h3 l3 r3=>⟨p,_,m,rfl,by omega,by omega,by omega,g3.2,λtm ps H4 g4 h4 r4 gd l4=>⟨by omega,λb hb=>?_⟩⟩⟩;have h3':=g4.br g3.2 _ _ h3;have tn:=bN.new (o:=HO.tup [V.ref tr,V.ref tm]) hb;refine q b aa tr tm ps _ ((g2.trans (g3.trans g4)).new hb) ⟨xq,tn _ _ h3',tn _ _ h4,r4.br tn⟩ (by omega) (by omega) r3 ?_ (by omega);rw [l3];simpa using gd
  refine (zr rfl ⟨rfl,zr rfl (dP (λc=>?_) (λc=>?_))⟩)
  ·have:=fin 0 _ (za _) (.inl rfl) rfl H2 (g1.trans g2);simp only [rA,jN,uD,tR,UZ,dz,uC,ju,UA,rU,p7,p5,jC,jo,nv,tY,tT,Ph,Ux,vI,rI,pV,tC,dQ,jt,Sb,gO,ku,jv,tU,jq,gj,iM,tB,tV,tZ,UY,jr,Vt,Vr,pZ,pZa,pZb,pZc,eS,tS,tW,UX,d9,iO,gA,L2.start,zc,yN,zU,yE,xG,xH,List.replicate,yU,yc,zy,yD,z8,Option.some.injEq,exists_eq_left',exists_eq_left,exists_and_left,and_assoc,V.int.injEq,V.ty.injEq,V.str.injEq,V.bl.injEq,V.ref.injEq,List.cons.injEq,and_true,true_and,yQ,yR];exact this
  ·have:=fin m _ hm (.inr ?_) rfl H2 (g1.trans g2)
   ·simp only [rA,jN,uD,tR,UZ,dz,uC,ju,UA,rU,p7,p5,jC,jo,nv,tY,tT,Ph,Ux,vI,rI,pV,tC,dQ,jt,Sb,gO,ku,jv,tU,jq,gj,iM,tB,tV,tZ,UY,jr,Vt,Vr,pZ,pZa,pZb,pZc,eS,tS,tW,UX,d9,iO,gA,L2.start,zc,yN,zU,yE,xG,xH,List.replicate,yU,yc,zy,yD,z8,Option.some.injEq,exists_eq_left',exists_eq_left,exists_and_left,and_assoc,V.int.injEq,V.ty.injEq,V.str.injEq,V.bl.injEq,V.ref.injEq,List.cons.injEq,and_true,true_and,yQ,yR];exact this
   ·by_cases hk:k=0
    ·subst hk;exact absurd rfl c
    ·omega
theorem Kq:aZ P w K mg base cB 3 a.BA a.C2 ["_law_purse_here", "_law_book_here", "_law_later"] (nB):=by
 have Ab:=qE P w base T B;have Mo:=Li P w base T B;refine T.Cn.ok GD (λvs H Q E h=>?_) (λbW A outer s H vs Q E hr h=>?_)
 ·obtain ⟨p,b,j,_,_,_,_,rfl,_⟩:=h;rfl
 ·have nd:=GD.nd;have hu:=hr.units;obtain ⟨p,b,j,aa,tr,tm,ps,rfl,hj,hb,gd,hp,q⟩:=h;refine cz ?_;intro Y
  let B0:Bk Y ((aq qB).drop 6):=⟨_,(xw (wN (wL (wK qH (wO (wT rfl) (wO (wT rfl) (wO (wT rfl) (pv 1) xy (λ_ _=>rfl)) (pv 4) (λ_ _=>rfl)) xy (λ_ _=>rfl)) (wO (wS rfl) (wc (xu (xv xy (xv xy wH rfl) rfl))) (wK OG (wK qr (wG Ab (hr.mono (by decide)) rfl T.Ac T.Ae T.Af .nil aC (xu (xv (pv 0) (xv xy wH rfl) rfl))) xy) (pv 2)) (λ_ _=>rfl))))))⟩
  let B1:Bk Y (nb (aq qB) 5):=⟨_,(xw (wN (wI (i:=4) nd rfl rfl (wO (wS rfl) (wc (xu (xv (wK qr (pv 4) xy) (xv (wK qr (wK wb (pv 4) (wP (wR rfl) (by rfl) T.cH PySem.boot_len (xu (xv (wO (wT rfl) (pv 1) xy (λ_ _=>rfl)) wH rfl)))) xy) wH rfl) rfl))) (pv 2) (λ_ _=>rfl)))))⟩
  let B2:Bk Y ((aq qB).drop 4):=⟨_,(xw (wJ (wI (i:=4) nd rfl rfl (wG Ab (hr.mono (by decide)) rfl T.Ac T.Ae T.Af .nil aC (xu (xv (pv 0) (xv (wP (wR rfl) (by rfl) T.cH PySem.boot_len (xu (xv (wO (wT rfl) (pv 1) xy (λ_ _=>rfl)) wH rfl))) wH rfl) rfl)))) (wJ (wa (wM lK (pv 3) xy (aM _)) B1.ps wQ) B0.bl)))⟩
  let B3:Bk Y ((aq qB).drop 3):=⟨_,(xw (wJ (wa (wM (QK hu) (wO (wT rfl) (pv 1) xy (λ_ _=>rfl)) (wg qP) (aM _)) (xw (wN (wL (wG Ab (hr.mono (by decide)) rfl T.Ac T.Ae T.Af .nil aC (xu (xv (pv 0) (xv xy wH rfl) rfl)))))) wQ) B2.bl))⟩
  let B4:Bk Y ((aq qB).drop 2):=⟨_,(xw (wJ (wa (wM cY (pv 3) xy (aM _)) (xw (wN (wL (wG Mo (hr.mono (by decide)) rfl T.LU T.LY T.L6 .nil aC (xu (xv (pv 0) wH rfl)))))) wQ) B3.bl))⟩
  let B5:Bk Y ((aq qB).drop 1):=⟨_,(xw (wJ (wa (wM cY (pv 3) xy (aM _)) (xw (wN (wL (wO (wS rfl) (wc (xu (xv xy (xv (wK fc xy xy) wH rfl) rfl))) (pv 2) (λ_ _=>rfl))))) wQ) B4.bl))⟩
  refine ⟨_,(xw (wJ (wI (i:=3) nd rfl rfl (wG Ab (hr.mono (by decide)) rfl T.Ac T.Ae T.Af .nil aC (xu (xv (pv 0) (xv xy wH rfl) rfl)))) B5.bl)),?_⟩;have line:=cP;have Wh:(2:Int) ^ 200 > 10000:=by decide
  have c9:N1 10 9:=⟨by decide,by decide,by decide⟩;have e9:(10:Int) ^ Int.toNat 9=1000000000:=by decide
  have l60:=gd.len;refine (zr rfl ⟨p,zr rfl ⟨by decide,by decide,hp,λway H1 w0 w1 g1=>?_⟩⟩);refine (zr rfl ⟨rfl,zr rfl (dP (λc=>?_) (λc=>(zr rfl ⟨rfl,zr rfl (dP (λc=>?_) (λc=>?_))⟩)))⟩)
  ·refine (aT rfl rfl ⟨c9,by show 2<=sizeLine;omega,λl hl=>(zr rfl ?_)⟩);rcases hj with rfl | rfl
   ·exact (fk xq rfl (q _ _ (by omega) (by omega) (g1.new hl)))
   ·exact (fk xq rfl (q _ _ (by rw [e9];decide) (by rw [e9];decide) (g1.new hl)))
  ·exact (zr rfl ⟨p,rfl,g1.2,λd H2 d0 d1 g2=>q _ _ d0 d1 (g1.trans g2)⟩)
  have lQ:=hb.br (g1.br hp);refine (zr rfl (cT lQ.book rfl ⟨za _,λu Yr=>?_⟩));have lP:=lQ.br (bN.new (o:=HO.tup []) Yr);have g2:=g1.new (o:=HO.tup []) Yr;refine ⟨tm,u,zr rfl ⟨rfl,bS.of lP.meets,bS.of xq,zr rfl (kP (λc2=>?_) (λc2=>?_))⟩⟩
  ·exact (zr rfl ⟨p,zr rfl ⟨by decide,by decide,g2.2,λd H3 d0 d1 g3=>q _ _ d0 (by omega) (g2.trans g3)⟩⟩)
  have QY:1<=ps.length:=by
   cases ps with
   | nil=>cases c2
   | cons _ _=>simp
  refine (zr rfl (zr rfl (cT lP.book rfl ⟨tm,zr rfl ⟨.inr (bS.of lP.meets),p,zr rfl ⟨by rw [zA];omega,by rw [zA];omega,g2.2,λd H3 d0 d1 g3=>?_⟩⟩⟩)));rw [zA] at d1;have UH:=lP.br (g3.br g2.2);have gg3:=g2.trans g3;refine (zr rfl (aT rfl rfl (zr rfl (dP (λc3=>?_) (λc3=>?_)))))
  ·refine (zr rfl (aT rfl rfl ⟨⟨by decide,by decide⟩,zr rfl (zr rfl (cT UH.book rfl ⟨tm,zr rfl ⟨.inr (bS.of UH.meets),aT rfl rfl (aT rfl rfl ⟨⟨by decide,by decide⟩,by show 2<=sizeLine;omega,λl hl=>(zr rfl ?_)⟩)⟩⟩))⟩));have gx:=gg3.new (o:=HO.lst [V.int (d / 2),V.int ((d + ((ps.map λa=>V.ref a.1).length:Int)) / 2)]) hl;have hx:=UH.br (bN.new (o:=HO.lst [V.int (d / 2),V.int ((d + ((ps.map λa=>V.ref a.1).length:Int)) / 2)]) hl);obtain ⟨k,ek,hk⟩:∃ k:Nat,gb [V.int (d / 2),V.int ((d + ((ps.map λa=>V.ref a.1).length:Int)) / 2)] j=some (V.int (k:Int))/\k < ps.length:=by
    rcases hj with rfl | rfl
    ·obtain ⟨k,hk⟩:=zm (show 0<=d / 2 by omega);exact ⟨k,by rw [<-hk];rfl,by omega⟩
    ·obtain ⟨k,hk⟩:=zm (show 0<=(d + ((ps.map λa=>V.ref a.1).length:Int)) / 2 by omega);refine ⟨k,by rw [<-hk];rfl,?_⟩;rw [zA] at hk;omega
   refine (fk xq ek ?_);refine (zr rfl (cT hx.book rfl (zr rfl (cT hx.meets (wV (v:=V.ref ps[k].1) (by simp [hk])) (cT (hx.rows _ (zx hk)) rfl ⟨by show 2<=sizeLine;omega,λl9 TN=>?_⟩)))));have g9:=gx.new (o:=HO.lst [V.int 1,V.int 0]) TN;refine (zr rfl ⟨p,zr rfl ⟨by decide,by decide,g9.2,λe H9 e0 e1 uE=>(aT rfl rfl ⟨⟨by decide,by decide⟩,zr rfl (aT rfl rfl ?_)⟩)⟩⟩);have h9:=uE.1 l9 _ (gx.2.ne TN) xq;have tb:=gd.at (zx hk);have bx:(e / 3=0\/e / 3=1):=by omega
   rcases hj with rfl | rfl <;> rcases bx with bx | bx <;> rw [bx]
   ·exact (fk h9 (by decide:gb [V.int 1,V.int 0] (Builtin.bitXor 0 0)=some (V.int 1)) (aT rfl rfl (q _ _ (by omega) (by omega) (g9.trans uE))))
   ·exact (fk h9 (by decide:gb [V.int 1,V.int 0] (Builtin.bitXor 1 0)=some (V.int 0)) (aT rfl rfl (q _ _ (by omega) (by omega) (g9.trans uE))))
   ·exact (fk h9 (by decide:gb [V.int 1,V.int 0] (Builtin.bitXor 0 1)=some (V.int 0)) (aT rfl rfl (q _ _ (by omega) (by omega) (g9.trans uE))))
   ·exact (fk h9 (by decide:gb [V.int 1,V.int 0] (Builtin.bitXor 1 1)=some (V.int 1)) (aT rfl rfl (q _ _ (by omega) (by omega) (g9.trans uE))))
  ·have gx:=gg3;have hx:=UH;obtain ⟨k,rfl⟩:=zm d0;have hk:k < ps.length:=by omega
   refine (zr rfl (cT hx.book rfl (zr rfl (cT hx.meets (wV (v:=V.ref ps[k].1) (by simp [hk])) (cT (hx.rows _ (zx hk)) rfl ⟨by show 2<=sizeLine;omega,λl9 TN=>?_⟩)))));have g9:=gx.new (o:=HO.lst [V.int 1,V.int 0]) TN;refine (zr rfl ⟨p,zr rfl ⟨by decide,by decide,g9.2,λe H9 e0 e1 uE=>(aT rfl rfl ⟨⟨by decide,by decide⟩,zr rfl (aT rfl rfl ?_)⟩)⟩⟩);have h9:=uE.1 l9 _ (gx.2.ne TN) xq;have tb:=gd.at (zx hk);have bx:(e / 3=0\/e / 3=1):=by omega
   rcases hj with rfl | rfl <;> rcases bx with bx | bx <;> rw [bx]
   ·exact (fk h9 (by decide:gb [V.int 1,V.int 0] (Builtin.bitXor 0 0)=some (V.int 1)) (aT rfl rfl (q _ _ (by omega) (by omega) (g9.trans uE))))
   ·exact (fk h9 (by decide:gb [V.int 1,V.int 0] (Builtin.bitXor 1 0)=some (V.int 0)) (aT rfl rfl (q _ _ (by omega) (by omega) (g9.trans uE))))
   ·exact (fk h9 (by decide:gb [V.int 1,V.int 0] (Builtin.bitXor 0 1)=some (V.int 0)) (aT rfl rfl (q _ _ (by omega) (by omega) (g9.trans uE))))
   ·exact (fk h9 (by decide:gb [V.int 1,V.int 0] (Builtin.bitXor 1 1)=some (V.int 1)) (aT rfl rfl (q _ _ (by omega) (by omega) (g9.trans uE))))
theorem IE:aZ P w K mg base cB 4 a.AO a.BQ ["_law_purse_here", "_law_book_here"] (Sk):=by
 have Ab:=qE P w base T B;have Id:=Kq P w base T B;refine T.Bj.ok Fh (λvs H Q E h=>?_) (λbW A outer s H vs Q E hr h=>?_)
 ·obtain ⟨p,b,_,_,_,_,rfl,_⟩:=h;rfl
 ·have nd:=Fh.nd;have hu:=hr.units;obtain ⟨p,b,aa,tr,tm,ps,rfl,hb,r1,r2,gd,hp,q⟩:=h;refine ⟨_,(xw (wJ (wI (i:=2) nd rfl rfl (wP (wR rfl) (by rfl) T.cH PySem.boot_len (xu (xv (wO (wT rfl) (pv 1) xy (λ_ _=>rfl)) wH rfl)))) (wJ (wI (i:=3) nd rfl rfl (wG Ab (hr.mono (by decide)) rfl T.Ac T.Ae T.Af .nil aC (xu (xv (pv 0) (xv (pv 2) wH rfl) rfl)))) (wJ (wI (i:=4) nd rfl rfl (wG Ab (hr.mono (by decide)) rfl T.Ac T.Ae T.Af .nil aC (xu (xv (pv 0) (xv (pv 2) wH rfl) rfl)))) (wJ (wa (PW.pt (eV (wM cY (pv 3) (pv 4) (aM _)) (dB (wM lK (wG Ab (hr.mono (by decide)) rfl T.Ac T.Ae T.Af .nil aC (xu (xv (pv 0) (xv xy wH rfl) rfl))) xy (aM _))))) (xw (wN (wI (i:=4) nd rfl rfl (wK fW (wK wb (pv 4) xy) (pv 2))))) wQ) (wJ (wI (i:=5) nd rfl rfl (wG Id (hr.mono (by decide)) rfl T.HN T.HU T.HZ .nil aC (xu (xv (pv 0) (xv (pv 1) (xv xy wH rfl) rfl) rfl)))) (wN (wL (wg (xu (xv (pv 3) (xv (pv 5) (xv (pv 4) (xv (wG Id (hr.mono (by decide)) rfl T.HN T.HU T.HZ .nil aC (xu (xv (pv 0) (xv (pv 1) (xv xy wH rfl) rfl) rfl))) wH rfl) rfl) rfl) rfl))))))))))),?_⟩;have line:=cP;have Wh:(2:Int) ^ 200 > 10000:=by decide
  have rl:(aa.map V.int).length=aa.length:=zA _;have fin:∀ s w:Int,0<=s->s < aa.length->0<=w->w < aa.length->∀ H3,Go p H H3->nB [.ref p,.ref b,.int 0] H3 (λx H4=>nB [.ref p,.ref b,.int 1] H4 (λy H5=>4<=sizeLine/\∀ t,H5 t=none->Q (.ref t) (upd H5 t (.tup [.int s,x,.int w,y]))) E0) E0:=by
   intro s w s0 s1 w0 w1 H3 g3;have UH:=hb.br (g3.br hp);refine (OY p b 0 aa tr tm ps ⟨rfl,.inl rfl,UH,gd,g3.2,λx H4 x0 x1 g4=>?_⟩);exact (OY p b 1 aa tr tm ps ⟨rfl,.inr rfl,UH.br (g4.br g3.2),gd,g4.2,λy H5 y0 y1 g5=>⟨by omega,λt ht=>q t s x w y _ ((g3.trans (g4.trans g5)).new ht) xq s0 s1 w0 w1 x0 x1 y0 y1⟩⟩)
  refine (zr rfl (cT hb.book rfl ⟨tr,zr rfl ⟨.inr (bS.of hb.aa),?_⟩⟩));refine (zr rfl (zr rfl ⟨p,zr rfl ⟨by omega,by omega,hp,λs H1 s0 s1 g1=>(zr rfl (zr rfl ⟨p,zr rfl ⟨by omega,by omega,g1.2,λw H2 w0 w1 g2=>?_⟩⟩))⟩⟩));refine (zr rfl (zr rfl ⟨rfl,zr rfl (dP (λc=>?_) (λc=>aQ rfl ?_))⟩))
  ·refine (zr rfl ⟨p,zr rfl ⟨by decide,by decide,g2.2,λe H3 e0 e1 g3=>(aT rfl rfl (zr rfl (dP (λc2=>?_) (λc2=>?_))))⟩⟩)
   ·refine (zr rfl (aT rfl rfl (zr rfl (aT rfl rfl ⟨by omega,?_⟩))));have:=fin s ((w + 1) % (((aa.map V.int).length:Nat):Int)) s0 (by omega) (xC _ (by omega)) (by have:=yl (w + 1) (show (0:Int) < ((aa.map V.int).length:Nat) by omega);omega) H3 (g1.trans (g2.trans g3));simp only [rA,jN,uD,tR,UZ,dz,uC,ju,UA,rU,p7,p5,jC,jo,nv,tY,tT,Ph,Ux,vI,rI,pV,tC,dQ,jt,Sb,gO,ku,jv,tU,jq,gj,iM,tB,tV,tZ,UY,jr,Vt,Vr,pZ,pZa,pZb,pZc,eS,tS,tW,UX,d9,iO,gA,L2.start,zc,yN,zU,yE,xG,xH,List.replicate,yU,yc,zy,yD,z8,Option.some.injEq,exists_eq_left',exists_eq_left,exists_and_left,and_assoc,V.int.injEq,V.ty.injEq,V.str.injEq,V.bl.injEq,V.ref.injEq,List.cons.injEq,and_true,true_and,yQ,yR];exact this
   ·have:=fin s w s0 (by omega) w0 (by omega) H3 (g1.trans (g2.trans g3));simp only [rA,jN,uD,tR,UZ,dz,uC,ju,UA,rU,p7,p5,jC,jo,nv,tY,tT,Ph,Ux,vI,rI,pV,tC,dQ,jt,Sb,gO,ku,jv,tU,jq,gj,iM,tB,tV,tZ,UY,jr,Vt,Vr,pZ,pZa,pZb,pZc,eS,tS,tW,UX,d9,iO,gA,L2.start,zc,yN,zU,yE,xG,xH,List.replicate,yU,yc,zy,yD,z8,Option.some.injEq,exists_eq_left',exists_eq_left,exists_and_left,and_assoc,V.int.injEq,V.ty.injEq,V.str.injEq,V.bl.injEq,V.ref.injEq,List.cons.injEq,and_true,true_and,yQ,yR];exact this
  ·have:=fin s w s0 (by omega) w0 (by omega) H2 (g1.trans g2);simp only [rA,jN,uD,tR,UZ,dz,uC,ju,UA,rU,p7,p5,jC,jo,nv,tY,tT,Ph,Ux,vI,rI,pV,tC,dQ,jt,Sb,gO,ku,jv,tU,jq,gj,iM,tB,tV,tZ,UY,jr,Vt,Vr,pZ,pZa,pZb,pZc,eS,tS,tW,UX,d9,iO,gA,L2.start,zc,yN,zU,yE,xG,xH,List.replicate,yU,yc,zy,yD,z8,Option.some.injEq,exists_eq_left',exists_eq_left,exists_and_left,and_assoc,V.int.injEq,V.ty.injEq,V.str.injEq,V.bl.injEq,V.ref.injEq,List.cons.injEq,and_true,true_and,yQ,yR];exact this
theorem HG:aZ P w K mg base cB 1 a.Ca a.Do ["thing"] (U1):=by
 refine T.CM.ok Ht (λvs H Q E h=>?_) (λbW A outer s H vs Q E hr h=>?_)
 ·obtain ⟨x,t,rfl,_⟩:=h;rfl
 ·have nd:=Ht.nd;have hu:=hr.units;obtain ⟨x,t,rfl,ht,k⟩:=h;refine ⟨_,(xw (wN (wL (dJ (wP (qm) (by rfl) T.cE yL (xu (xv (pv 0) (xv (iy (v:=V.ty "int") rfl T.aa7 PyProof.Rows.boot_int rfl) wH rfl) rfl))) (fS (OD (wP (qm) (by rfl) T.cE yL (xu (xv (pv 0) (xv (iy (v:=V.ty "bool") rfl T.YY PyProof.Rows.boot_bool rfl) wH rfl) rfl))))))))),?_⟩;refine (zr rfl ⟨x,t, "int", rfl,ht,.inl rfl,zr rfl ?_⟩);rcases tL ht with rfl | rfl | rfl | rfl | rfl | rfl | rfl <;> first | exact aQ rfl k | exact bP rfl ⟨_,rfl,x,_, "bool", rfl,ht,.inr (.inl rfl),_,rfl,k⟩
theorem q0:aZ P w K mg base cB 2 a.Bw a.CW ["thing", "least", "most"] (Sd):=by
 have Gu:=HG P w base T B;refine T.Cj.ok Gz (λvs H Q E h=>?_) (λbW A outer s H vs Q E hr h=>?_)
 ·obtain ⟨x,t,lo,hi,rfl,_⟩:=h;rfl
 ·have nd:=Gz.nd;have hu:=hr.units;obtain ⟨x,t,lo,hi,rfl,ht,k⟩:=h;refine ⟨_,(xw (wN (wL (dJ (wG Gu (hr.mono (by decide)) rfl T.IM T.IY T.Jg .nil aC (xu (xv (pv 0) wH rfl))) (fS (SV nW nW (pv 1) (pv 0) (pv 2))))))),?_⟩;refine (zr rfl ⟨x,t,rfl,ht,zr rfl ?_⟩);by_cases h:t = "int"
  ·subst h;obtain ⟨i,rfl⟩:=UO ht;refine bP rfl (zr rfl (zr rfl (aT rfl rfl (zr rfl ?_))));have k:Q (.bl (decide (lo<=i) && decide (i<=hi))) H:=k;by_cases h1:lo<=i
   ·rw [decide_eq_true h1] at k ⊢;exact bP rfl (zr rfl (aT rfl rfl k))
   ·rw [decide_eq_false h1] at k ⊢;exact aQ rfl k
  ·rw [Yo ht h] at k;exact aQ (by simpa using h) k
theorem LQ:aZ P w K mg base cB 3 a.C8 a.DS ["thing"] (Xw):=by
 have AB:=q0 P w base T B;refine T.Dx.ok Iv (λvs H Q E h=>?_) (λbW A outer s H vs Q E hr h=>?_)
 ·obtain ⟨x,t,rfl,_⟩:=h;rfl
 ·have nd:=Iv.nd;have hu:=hr.units;obtain ⟨x,t,rfl,ht,k⟩:=h;refine ⟨_,(xw (wN (wL (wG AB (hr.mono (by decide)) rfl T.Bq T.Br T.Bs .nil aC (xu (xv (pv 0) (xv xy (xv (fU (v:=V.int 1000000000) rfl T.gZ ⟨_,rfl⟩) wH rfl) rfl) rfl)))))),?_⟩;exact (zr rfl ⟨x,t,gJ rfl ⟨ht,k⟩⟩)
theorem HH:aZ P w K mg base cB 1 a.Cb a.Dp ["number", "bound"] (Ve):=by
 refine T.CO.ok Hu (λvs H Q E h=>?_) (λbW A outer s H vs Q E hr h=>?_)
 ·obtain ⟨o,t,rfl,_⟩:=h;rfl
 ·have nd:=Hu.nd;have hu:=hr.units;obtain ⟨o,t,rfl,q⟩:=h;refine ⟨_,(xw (wN (wL (dJ (nU (iz (pv 0))) (fS (fV nV (pv 0) (pv 1) (aM _))))))),?_⟩;cases o with
  | none=>exact (zr rfl (zr rfl (aQ rfl q)))
  | some y=>exact (zr rfl (zr rfl (bP rfl (zr rfl (zr rfl (aT rfl rfl q))))))
theorem Gb:aZ P w K mg base cB 1 a.C7 a.DR ["number", "bound"] (Xv):=by
 refine T.Dw.ok Ir (λvs H Q E h=>?_) (λbW A outer s H vs Q E hr h=>?_)
 ·obtain ⟨o,t,rfl,_⟩:=h;rfl
 ·have nd:=Ir.nd;have hu:=hr.units;obtain ⟨o,t,rfl,q⟩:=h;refine ⟨_,(xw (wN (wL (dJ (nU (iz (pv 0))) (fS (fV nW (pv 0) (pv 1) (aM _))))))),?_⟩;cases o with
  | none=>exact (zr rfl (zr rfl (aQ rfl q)))
  | some y=>exact (zr rfl (zr rfl (bP rfl (zr rfl (zr rfl (aT rfl rfl q))))))
theorem LR:aZ P w K mg base cB 1 a.C9 a.DT ["number", "bound"] (XD):=by
 refine T.Dy.ok Iw (λvs H Q E h=>?_) (λbW A outer s H vs Q E hr h=>?_)
 ·obtain ⟨o,t,rfl,_⟩:=h;rfl
 ·have nd:=Iw.nd;have hu:=hr.units;obtain ⟨o,t,rfl,q⟩:=h;refine ⟨_,(xw (wN (wL (dJ (nU (iz (pv 0))) (fS (fV WI (pv 0) (pv 1) (aM _))))))),?_⟩;cases o with
  | none=>exact (zr rfl (zr rfl (aQ rfl q)))
  | some y=>exact (zr rfl (zr rfl (bP rfl (zr rfl (zr rfl (aT rfl rfl q))))))
theorem Kp:aZ P w K mg base cB 3 a.Bz a.C0 ["thing"] (Oo):=by
 have AB:=q0 P w base T B;refine T.Cm.ok GC (λvs H Q E h=>?_) (λbW A outer s H vs Q E hr h=>?_)
 ·obtain ⟨p,aa,rfl,_⟩:=h;rfl
 ·have nd:=GC.nd;have hu:=hr.units;obtain ⟨p,aa,rfl,hp,h1,h12,hr9,q⟩:=h;refine ⟨_,(xw (wJ (wa (PW.pt (iQ (qV (qF (wP (qm) (by rfl) T.cE yL (xu (xv (pv 0) (xv (iy (v:=V.ty "list") rfl T.pL yr rfl) wH rfl) rfl))))) (eU (qV (SM nW nW xy (wP (wR rfl) (by rfl) T.cH PySem.boot_len (xu (xv (pv 0) wH rfl))) (fU (v:=V.int 12) rfl T.pD ⟨_,rfl⟩)))))) (xw (wN (wL fH))) wQ) (wN (wL (wP (Ud rfl rfl) (by rfl) T.aa8 PyProof.Rows.boot_all (xu (xv (qQ (own:=["room"]) (caps:=[]) rfl (show aV ["room"] [] ["thing"] (aB Ee) _ from L2.gU) (wn rfl (pv 0)) (λ_ _ _ _=>(wE (i:=0) (show List.Nodup (["room"]:List Str) from by decide +kernel) rfl rfl)) (λ_ _ _ _=>qU) (λ_ _ _ _=>(wG AB (hr.mono (by decide)) rfl T.Bq T.Br T.Bs .nil aC (xu (xv (pv 0) (xv xy (xv (fU (v:=V.int 99) rfl T.NL ⟨_,rfl⟩) wH rfl) rfl) rfl))))) wH rfl))))))),?_⟩;have line:=cP;refine (zr rfl ⟨_, "list", "list", rfl,Pe hp,.inr (.inr (.inl rfl)),zr rfl (aQ rfl ?_)⟩);simp only [rA,jN,uD,tR,UZ,dz,uC,ju,UA,rU,p7,p5,jC,jo,nv,tY,tT,Ph,Ux,vI,rI,pV,tC,dQ,jt,Sb,gO,ku,jv,tU,jq,gj,iM,tB,tV,tZ,UY,jr,Vt,Vr,pZ,pZa,pZb,pZc,eS,tS,tW,UX,d9,iO,gA,L2.start,zc,yN,zU,yE,xG,xH,List.replicate,yU,yc,zy,yD,z8,Option.some.injEq,exists_eq_left',exists_eq_left,exists_and_left,and_assoc,V.int.injEq,V.ty.injEq,V.str.injEq,V.bl.injEq,V.ref.injEq,List.cons.injEq,and_true,true_and,yQ,yR];refine ⟨_,.inl (aU.of hp),bP (decide_eq_true (by rw [zA];omega)) (aQ (by rw [decide_eq_true (by rw [zA];omega)];rfl) ?_)⟩;refine (zr rfl ⟨p,rfl,⟨_,aU.of hp⟩,?_⟩);refine cU (K:=K) (a:=p) (xs:=aa.map V.int) (λi τ acc H5=>(∃ t0,τ=[t0])/\acc=(List.replicate i true).map V.bl/\H5=H) ⟨⟨_,rfl⟩,rfl,rfl⟩ (by rw [zA];omega) ?_ ?_ ?_
  ·rintro i τ acc H5 ⟨⟨t0,rfl⟩,rfl,rfl⟩;exact ⟨by simp,aU.of hp⟩
  ·rintro i x τ acc H5 C hx ⟨⟨t0,rfl⟩,rfl,rfl⟩ hC;obtain ⟨r,hr,rfl⟩:=wY hx;have snoc:(List.replicate i true).map V.bl++[V.bl true]=(List.replicate (i + 1) true).map V.bl:=by
    rw [List.replicate_succ',zE];rfl
   obtain ⟨r0,r1⟩:=hr9 r (zB hr);have e:j3 0 99 (.int r)=true:=by simp [j3,r0,r1]
   refine (zr rfl ⟨.int r, "int", 0,99,rfl,rfl,?_⟩);rw [e];exact hC _ _ _ ⟨⟨_,rfl⟩,snoc,rfl⟩
  ·rintro τ acc H5 ⟨⟨t0,rfl⟩,rfl,rfl⟩ lc iA;refine ⟨lc,rfl,_,aU.of xq,?_⟩;have:=q _ (xx (o:=HO.lst ((List.replicate (aa.map V.int).length true).map V.bl)) iA);have a:(List.replicate (aa.map V.int).length true).all id=true:=by simp
   rw [a];exact this
theorem Jy:aZ P w K mg base cB 3 a.A7 a.Cu ["walkers", "thing"] (Sl):=by
 have AB:=q0 P w base T B;refine T.BG.ok FX (λvs H Q E h=>?_) (λbW A outer s H vs Q E hr h=>?_)
 ·obtain ⟨w,t,r,rfl,_⟩:=h;rfl
 ·have nd:=FX.nd;have hu:=hr.units;obtain ⟨w,t,r,rfl,ht,⟨a1,a2,a3,a4,a5,a6,a7,a8,a9⟩,q⟩:=h;refine cz ?_;intro Y
  let B0:Bk Y ((aq qe).drop 3):=⟨_,(xw (wN (wL (dJ (fV lJ (pv 2) (pv 3) (aM _)) (dJ (wG AB (hr.mono (by decide)) rfl T.Bq T.Br T.Bs .nil aC (xu (xv (pv 4) (xv xy (xv (fU (v:=V.int 1000000000) rfl T.gZ ⟨_,rfl⟩) wH rfl) rfl) rfl))) (fS (wG AB (hr.mono (by decide)) rfl T.Bq T.Br T.Bs .nil aC (xu (xv (pv 5) (xv xy (xv (fU (v:=V.int 99) rfl T.NN ⟨_,rfl⟩) wH rfl) rfl) rfl)))))))))⟩
  let B1:Bk Y ((aq qe).drop 2):=⟨_,(xw (wJ (wa (PW.pt (iQ (qV (qF (wG AB (hr.mono (by decide)) rfl T.Bq T.Br T.Bs .nil aC (xu (xv (pv 2) (xv xy (xv (wK qH (pv 0) xy) wH rfl) rfl) rfl))))) (eU (qV (qF (wG AB (hr.mono (by decide)) rfl T.Bq T.Br T.Bs .nil aC (xu (xv (pv 3) (xv xy (xv (wK qH (pv 0) xy) wH rfl) rfl) rfl)))))))) (xw (wN (wL fH))) wQ) B0.bl))⟩
  let B2:Bk Y ((aq qe).drop 1):=⟨_,(xw (wJ (wu (pv 1) (wX (n:=4) rfl rfl (wD (wE (i:=2) nd rfl rfl) (wD (wE (i:=3) nd rfl rfl) (wD (wE (i:=4) nd rfl rfl) (wD (wE (i:=5) nd rfl rfl) wW)))))) B1.bl))⟩
  refine ⟨_,(xw (wJ (wa (PW.pt (iQ (qV (qF (wP (qm) (by rfl) T.cE yL (xu (xv (pv 1) (xv (iy (v:=V.ty "tuple") rfl T.eK yJ rfl) wH rfl) rfl))))) (eU (wM lJ (wP (wR rfl) (by rfl) T.cH PySem.boot_len (xu (xv (pv 1) wH rfl))) xy (aM _))))) (xw (wN (wL fH))) wQ) B2.bl)),?_⟩;have Yt:H t=some (.tup [.int r.lo,.int r.hi,.int r.t,.int r.m]):=ht;have e1:j3 0 (w - 1) (.int r.lo)=true:=by
   have:r.lo<=w - 1:=by omega
   simp [j3,a1,this]
  have e2:j3 0 (w - 1) (.int r.hi)=true:=by
   have:r.hi<=w - 1:=by omega
   simp [j3,a3,this]
  have e3:j3 1 1000000000 (.int r.t)=true:=by simp [j3,a6,a7]
  have e4:j3 1 99 (.int r.m)=true:=by simp [j3,a8,a9]
  refine (zr rfl ⟨_, "tuple", "tuple", rfl,Pd Yt,.inr (.inr (.inr rfl)),zr rfl (aQ rfl ?_)⟩);refine (zr rfl ⟨t,zr rfl ⟨.inr (bS.of Yt),rfl,zr rfl (aQ rfl ?_)⟩⟩);refine (zr rfl (pS Yt ?_));refine (zr rfl (zr rfl (aT rfl rfl ⟨.int r.lo, "int", aT rfl rfl (zr rfl ?_)⟩)));rw [e1];refine aQ rfl (zr rfl (zr rfl (aT rfl rfl ⟨.int r.hi, "int", aT rfl rfl (zr rfl ?_)⟩)));rw [e2];refine aQ rfl (zr rfl (zr rfl ⟨rfl,zr rfl (bP (by simp [a5]) (zr rfl ⟨.int r.t, "int", aT rfl rfl (zr rfl ?_)⟩))⟩));rw [e3];refine bP rfl (zr rfl ⟨.int r.m, "int", aT rfl rfl ?_⟩);rw [e4];exact q
theorem EI:aZ P w K mg base cB 1 a.Ah a.Ar ["meetings"] (U4):=by
 refine T.Ao.ok Db (λvs H Q E h=>?_) (λbW A outer s H vs Q E hr h=>?_)
 ·obtain ⟨l,fs,w,rfl,_⟩:=h;rfl
 ·have nd:=Db.nd;have hu:=hr.units;obtain ⟨l,fs,w0,rfl,hL,raw,q⟩:=h;refine cz ?_;intro Y
  let B0:Bk Y ((nb (aq wf) 1).drop 1):=⟨_,(xw (wJ (wv (SW PySem.F.slot_set_add PySem.F.type_set_add (P5 hu) (pv 1) (xu (xv (wg (xu (xv (pv 2) (xv (pv 4) wH rfl) rfl))) wH rfl)))) (wN (wv (SW PySem.F.slot_set_add PySem.F.type_set_add (P5 hu) (pv 1) (xu (xv (wg (xu (xv (pv 3) (xv (pv 4) wH rfl) rfl))) wH rfl)))))))⟩
  let B1:Bk Y (nb (aq wf) 1):=⟨_,(xw (wJ (wa (PW.pt (iQ (wM (S1 hu) (wg (xu (xv (pv 2) (xv (pv 4) wH rfl) rfl))) (pv 1) rfl) (eU (wM (S1 hu) (wg (xu (xv (pv 3) (xv (pv 4) wH rfl) rfl))) (pv 1) rfl)))) (xw (wN (wL fH))) wQ) B0.bl))⟩
  let B2:Bk Y ((aq wf).drop 1):=⟨_,(xw (wJ (qG PassesOwn.never rfl (wn rfl (pv 0)) (wX (n:=4) rfl rfl (wD (wE (i:=2) nd rfl rfl) (wD (wE (i:=3) nd rfl rfl) (wD (wE (i:=4) nd rfl rfl) (wD (wE (i:=5) nd rfl rfl) wW))))) B1.ps) (wN (wL fH))))⟩
  refine ⟨_,(xw (wJ (wI (i:=1) nd rfl rfl (OE NK (by rfl) T.aa6 PyProof.Rows.boot_set)) B2.bl)),?_⟩;have line:=cP;have OH:fs.length<=60:=by have:=raw.gH;rw [zA] at this;exact this
  refine ⟨rfl,λsp OQ=>?_⟩;refine (zr rfl ⟨l,rfl,⟨_,(xx OQ).seq (aU.of hL.1)⟩,?_⟩);refine (let W3:IV:=λi σ H5=>∃ xs:List (Addr×List Int),(∃ v2 v3 v4 v5,σ=[some (.ref l),some (.ref sp),v2,v3,v4,v5])/\aG H H5/\H5 sp=some (kH P w sp xs)/\(∀ e∈xs,H5 e.1=some (.tup (e.2.map V.int)))/\xs.length<=2 * i/\∀ e∈xs,∃ j,j < i/\∃ r,fs[j]?=some r/\(e.2=[r.2.lo,r.2.t]\/e.2=[r.2.hi,r.2.t]);qM (K:=K) (a:=l) (xs:=fs.map λa=>V.ref a.1) W3 ?_ ?_ ?_ ?_)
  ·exact ⟨[],⟨_,_,_,_,rfl⟩,xx OQ,xq,(λ_ z=>nomatch z),za _,λ_ z=>nomatch z⟩
  ·rintro i σ H5 _ ⟨xs,_,sm,_⟩;exact sm.seq (aU.of hL.1)
  ·rintro i x σ H5 hx ⟨xs,⟨v2,v3,v4,v5,rfl⟩,sm,hs,hk,gH,old⟩;obtain ⟨r,hr,rfl⟩:=wY hx;have hi:i < fs.length:=(zC.mp hr).1;have cy:H5 r.1=some (.tup [.int r.2.lo,.int r.2.hi,.int r.2.t,.int r.2.m]):=sm _ _ (hL.2 r (zB hr));have fresh:∀ k,(k=[r.2.lo,r.2.t]\/k=[r.2.hi,r.2.t])->k ∉ xs.map (·.2):=λk uA z=>by
    obtain ⟨e,he,rfl⟩:=zK.mp z;obtain ⟨j,hj,r',RO,h⟩:=old e he;have P7:j < fs.length:=by omega
    have ap:(fs.map (·.2))[j]'(by rw [zA];exact P7)=r'.2/\(fs.map (·.2))[i]'(by rw [zA];exact hi)=r.2:=by
     constructor
     ·have:=(zC.mp RO).2;rw [List.getElem_map,this]
     ·have:=(zC.mp hr).2;rw [List.getElem_map,this]
    have pw:=zl.mp raw.pw j i (by rw [zA];exact P7) (by rw [zA];exact hi) hj;rw [ap.1,ap.2] at pw;have apt:r'.2.t=r.2.t->apart r'.2 r.2:=pw;rcases h with h | h <;> rcases uA with uA | uA <;> (rw [h] at uA;injection uA with q1 q2;injection q2 with q2 _;have:=apt q2;unfold apart at this;omega)
   refine (pS cy ?_);have nsp:∀ {t:Addr} {H9:Hp}{o:HO},H9 sp=some o->H9 t=none->t≠sp:=λa b z=>by rw [z,a] at b;cases b
   refine (zr rfl (zr rfl ⟨by show 2<=sizeLine;omega,λt1 Rb=>(zr rfl ⟨sp,xs,t1,[r.2.lo,r.2.t],rfl,rfl,?_,xq,λe he=>xx Rb _ _ (hk e he),zr rfl ?_⟩)⟩))
   ·rw [wF (nsp hs Rb).symm];exact hs
   rw [decide_eq_false (fresh _ (.inl rfl))];have s1:=xx (o:=HO.tup [V.int r.2.lo,V.int r.2.t]) Rb;have RN:=s1 _ _ hs;have hk1:=λe he=>s1 _ _ (hk e he);generalize upd H5 t1 (HO.tup [V.int r.2.lo,V.int r.2.t])=H6 at *;refine aQ rfl (zr rfl (zr rfl ⟨by show 2<=sizeLine;omega,λt2 mw=>(zr rfl ⟨sp,xs,t2,[r.2.hi,r.2.t],rfl,rfl,xx mw _ _ RN,xq,λe he=>xx mw _ _ (hk1 e he),zr rfl ?_⟩)⟩));rw [decide_eq_false (fresh _ (.inr rfl))];have s2:=s1.trans (xx (o:=HO.tup [V.int r.2.hi,V.int r.2.t]) mw);have N5:=xx (o:=HO.tup [V.int r.2.hi,V.int r.2.t]) mw _ _ RN;have uA:=λe he=>xx (o:=HO.tup [V.int r.2.hi,V.int r.2.t]) mw _ _ (hk1 e he);generalize upd H6 t2 (HO.tup [V.int r.2.hi,V.int r.2.t])=H7 at *;refine aQ rfl ?_;have ne:r.2.lo≠r.2.hi:=(raw.each r.2 (zK.mpr ⟨r,zB hr,rfl⟩)).2.2.2.2.1;refine (zr rfl ⟨⟨sp,xs,rfl,N5⟩,zr rfl (zr rfl ⟨by show 2<=sizeLine;omega,λt3 Zh=>⟨sp,xs,t3,[r.2.lo,r.2.t],rfl,rfl,xx Zh _ _ N5,xq,λe he=>xx Zh _ _ (uA e he),by omega,λz=>absurd z (fresh _ (.inl rfl)),λ_=>?_⟩⟩)⟩);have s3:=(sm.trans s2).trans (xx (o:=HO.tup [V.int r.2.lo,V.int r.2.t]) Zh);have s3':=aG.put (o:=kH P w sp (xs++[(t3,[r.2.lo,r.2.t])])) OQ s3;have n3:t3≠sp:=λz=>by rw [z,N5] at Zh;cases Zh
   have hk3:∀ e∈xs++[(t3,[r.2.lo,r.2.t])],upd (upd H7 t3 (HO.tup [V.int r.2.lo,V.int r.2.t])) sp (kH P w sp (xs++[(t3,[r.2.lo,r.2.t])])) e.1=some (.tup (e.2.map V.int)):=λe he=>by
    rcases zW.mp he with h | h
    ·have h1:=uA e h;rw [wF (cZ h1 N5 (by intro z;cases z))];exact xx Zh _ _ h1
    ·cases zJ.mp h;show upd (upd H7 t3 _) sp _ t3=_;rw [wF n3];exact xq
   have hs8:upd (upd H7 t3 (HO.tup [V.int r.2.lo,V.int r.2.t])) sp (kH P w sp (xs++[(t3,[r.2.lo,r.2.t])])) sp=some (kH P w sp (xs++[(t3,[r.2.lo,r.2.t])])):=xq;refine (zr rfl ⟨⟨sp,zr rfl hs8⟩,zr rfl (zr rfl ⟨by show 2<=sizeLine;omega,λt4 Ys=>⟨sp,xs++[(t3,[r.2.lo,r.2.t])],t4,[r.2.hi,r.2.t],rfl,rfl,xx Ys _ _ hs8,xq,λe he=>xx Ys _ _ (hk3 e he),by rw [zG,zp];omega,λz=>?_,λ_=>?_⟩⟩)⟩)
   ·exfalso;rw [zE] at z;rcases zW.mp z with z | z
    ·exact fresh _ (.inr rfl) z
    ·have z:=zJ.mp z;injection z with z _
     exact ne z.symm
   have n4:t4≠sp:=λz=>by subst z;exact absurd (hs8.symm.trans Ys) (by intro h;cases h)
   refine ⟨xs++[(t3,[r.2.lo,r.2.t])]++[(t4,[r.2.hi,r.2.t])],⟨_,_,_,_,rfl⟩,aG.put OQ (s3'.trans (xx Ys)),xq,λe he=>?_,by rw [zG,zG,zp,zp];omega,λe he=>?_⟩
   ·rcases zW.mp he with h | h
    ·have h1:=hk3 e h;rw [wF (cZ h1 hs8 (by intro z;cases z))];exact xx Ys _ _ h1
    ·cases zJ.mp h;show upd (upd _ t4 _) sp _ t4=_;rw [wF n4];exact xq
   ·rcases zW.mp he with h | h
    ·rcases zW.mp h with h | h
     ·obtain ⟨j,hj,r',RO,e'⟩:=old e h;exact ⟨j,by omega,r',RO,e'⟩
     ·cases zJ.mp h;exact ⟨i,by omega,r,hr,.inl rfl⟩
    ·cases zJ.mp h;exact ⟨i,by omega,r,hr,.inr rfl⟩
  ·rintro σ H5 ⟨xs,⟨v2,v3,v4,v5,rfl⟩,sm,_⟩;exact q _ sm
theorem Ih:aZ P w K mg base cB 1 a.AG a.Bo ["meeting"] (XA):=by
 refine T.A0.ok E4 (λvs H Q E h=>?_) (λbW A outer s H vs Q E hr h=>?_)
 ·obtain ⟨t,r,rfl,_⟩:=h;rfl
 ·have nd:=E4.nd;have hu:=hr.units;obtain ⟨t,r,rfl,ht,q⟩:=h;refine ⟨_,(xw (wJ (wu (pv 0) (wX (n:=4) rfl rfl (wD (wE (i:=1) nd rfl rfl) (wD (wE (i:=2) nd rfl rfl) (wD (wE (i:=3) nd rfl rfl) (wD (wE (i:=4) nd rfl rfl) wW)))))) (wN (wL (wg (xu (xv (wP (dD rfl) (by rfl) T.pK ya (xu (xv (pv 1) (xv (pv 2) wH rfl) rfl))) (xv (wP (iD rfl) (by rfl) T.NR yz (xu (xv (pv 1) (xv (pv 2) wH rfl) rfl))) (xv (pv 3) (xv (pv 4) wH rfl) rfl) rfl) rfl))))))),?_⟩;have line:=cP;have Yt:H t=some (.tup [.int r.lo,.int r.hi,.int r.t,.int r.m]):=ht;simp only [rA,jN,uD,tR,UZ,dz,uC,ju,UA,rU,p7,p5,jC,jo,nv,tY,tT,Ph,Ux,vI,rI,pV,tC,dQ,jt,Sb,gO,ku,jv,tU,jq,gj,iM,tB,tV,tZ,UY,jr,Vt,Vr,pZ,pZa,pZb,pZc,eS,tS,tW,UX,d9,iO,gA,L2.start,zc,yN,zU,yE,xG,xH,List.replicate,yU,yc,zy,yD,z8,Option.some.injEq,exists_eq_left',exists_eq_left,exists_and_left,and_assoc,V.int.injEq,V.ty.injEq,V.str.injEq,V.bl.injEq,V.ref.injEq,List.cons.injEq,and_true,true_and,yQ,yR];refine ⟨_,bS.of Yt,rfl,gJ rfl (gJ rfl (gJ rfl (aT rfl rfl (zr rfl (zr rfl (zr rfl (zr rfl ⟨by omega,λp hp=>?_⟩)))))))⟩;have e1:(if r.hi < r.lo then r.hi else r.lo)=min r.lo r.hi:=by split <;> omega
  have e2:(if r.hi > r.lo then r.hi else r.lo)=max r.lo r.hi:=by split <;> omega
  rw [e1,e2];exact q p _ (xx hp) xq
theorem GI:aZ P w K mg base cB 4 a.Bv a.Bt ["rooms", "meetings"] (Xz a.tP dN):=by
 have LM:=Kp P w base T B;have K8:=Jy P w base T B;have Fd:=EI P w base T B;have Jt:=Ih P w base T B;refine T.Ci.okC T.acg Gy (λvs H Q E h=>?_) (λA outer s H vs Q E hr h=>?_)
 ·obtain ⟨_,_,_,_,rfl,_⟩:=h;rfl
 ·have nd:=Gy.nd;have hu:=hr.units;obtain ⟨pr,pm,aa,fs,rfl,hp,h1,h12,hr9,hL,raw,mt,q⟩:=h;refine cz ?_;intro Y
  let B0:Bk Y ((aq qC).drop 5):=⟨_,(xw (wN (wL (wg (xu (xv (qY (qT) (by rfl) T.eK yJ (xu (xv (pv 0) wH rfl))) (xv (qY (qT) (by rfl) T.eK yJ (xu (xv (OC (N:=["row"]) (pn := "row") (ok:=(λl=>l.length=4)) (kf:=Tq) rfl T.pJ rfl T.acf B rfl rfl (hr.mono (by decide)) ⟨rfl,rfl,rfl,by decide +kernel,rfl,by decide +kernel,by decide +kernel⟩ (λ_ _ _ _=>rfl) VO (λ_ _ _ _ _=>⟨_,(wg (xu (xv (wO (wT rfl) (pv 0) xy (λ_ _=>rfl)) (xv (wO (wT rfl) (pv 0) xy (λ_ _=>rfl)) wH rfl) rfl))),(by intro a r h ho;simp only [rA,jN,uD,tR,UZ,dz,uC,ju,UA,rU,p7,p5,jC,jo,nv,tY,tT,Ph,Ux,vI,rI,pV,tC,dQ,jt,Sb,gO,ku,jv,tU,jq,gj,iM,tB,tV,tZ,UY,jr,Vt,Vr,pZ,pZa,pZb,pZc,eS,tS,tW,UX,d9,iO,gA,L2.start,zc,yN,zU,yE,xG,xH,List.replicate,yU,yc,zy,yD,z8,Option.some.injEq,exists_eq_left',exists_eq_left,exists_and_left,and_assoc,V.int.injEq,V.ty.injEq,V.str.injEq,V.bl.injEq,V.ref.injEq,List.cons.injEq,and_true,true_and,yQ,yR];exact VN h ho)⟩) (pv 3) rfl) wH rfl))) wH rfl) rfl))))))⟩
  let B1:Bk Y ((aq qC).drop 4):=⟨_,(xw (wJ (nO (ix:=3) nd rfl rfl (own:=["meeting"]) (caps:=[]) rfl (show aV ["meeting"] [] ["rooms", "meetings", "meeting", "told"] (aB qC) _ from L2.gU) (wn rfl (pv 1)) (λ_ _ _ _=>(wE (i:=0) (show List.Nodup (["meeting"]:List Str) from by decide +kernel) rfl rfl)) (λ_ _ _ _=>qU) (λ_ _ _ _=>(wG Jt (hr.mono (by decide)) rfl T.IL T.IW T.Jf .nil aC (xu (xv (pv 0) wH rfl))))) B0.bl))⟩
  let B2:Bk Y ((aq qC).drop 3):=⟨_,(xw (wJ (wa (qF (wG Fd (hr.mono (by decide)) rfl T.E9 T.Fa T.Fb .nil aC (xu (xv (pv 1) wH rfl)))) (xw (wN fE)) wQ) B1.bl))⟩
  let B3:Bk Y (nb (aq qC) 2):=⟨_,(xw (wN (wa (qV (qF (wG K8 (hr.mono (by decide)) rfl T.Kv T.KD T.KM .nil aC (xu (xv (wP (wR rfl) (by rfl) T.cH PySem.boot_len (xu (xv (pv 0) wH rfl))) (xv (pv 2) wH rfl) rfl))))) (xw (wN fE)) wQ)))⟩
  let B4:Bk Y ((aq qC).drop 1):=⟨_,(xw (wJ (wa (PW.pt (iQ (qV (qF (wP (qm) (by rfl) T.cE yL (xu (xv (pv 1) (xv (iy (v:=V.ty "list") rfl T.pL yr rfl) wH rfl) rfl))))) (eU (wM lK (wP (wR rfl) (by rfl) T.cH PySem.boot_len (xu (xv (pv 1) wH rfl))) (fU (v:=V.int 60) rfl T.mD ⟨_,rfl⟩) (aM _))))) (xw (wN fE)) wQ) (wJ (qG PassesOwn.never rfl (wn rfl (pv 1)) (wE (i:=2) nd rfl rfl) B3.ps) B2.bl)))⟩
  refine ⟨_,(xw (wJ (wa (qV (qF (wG LM (hr.mono (by decide)) rfl T.Lm T.Lr T.Lx .nil aC (xu (xv (pv 0) wH rfl))))) (xw (wN fE)) wQ) B4.bl)),?_⟩;have line:=cP;have OH:fs.length<=60:=by have:=raw.gH;rw [zA] at this;exact this
  refine (zr rfl ⟨pr,aa,rfl,hp,h1,h12,hr9,λH1 s1=>(zr rfl (aQ rfl ?_))⟩);refine (zr rfl ⟨_, "list", "list", rfl,Pe (s1 _ _ hL.1),.inr (.inr (.inl rfl)),zr rfl (aQ rfl ?_)⟩);refine (zr rfl ⟨pm,zr rfl ⟨.inl (aU.of (s1 _ _ hL.1)),aT rfl rfl (zr rfl (aQ (decide_eq_false (by rw [zA];omega)) ?_))⟩⟩);refine (zr rfl ⟨pm,rfl,⟨_,aU.of (s1 _ _ hL.1)⟩,?_⟩);refine (let W4:IV:=λi σ H5=>(∃ v2,σ=[some (.ref pr),some (.ref pm),v2,none])/\H1=H5;qM (K:=K) (a:=pm) (xs:=fs.map λa=>V.ref a.1) W4 ⟨⟨_,rfl⟩,rfl⟩ ?_ ?_ ?_)
  ·rintro i σ H5 _ ⟨_,rfl⟩;exact aU.of (s1 _ _ hL.1)
  ·rintro i x σ H5 hx ⟨⟨v2,rfl⟩,rfl⟩;obtain ⟨r,hr,rfl⟩:=wY hx;have hm:=zB hr;refine (zr rfl ⟨pr,zr rfl ⟨.inl (aU.of (s1 _ _ hp)),zr rfl ⟨_,r.1,r.2,rfl,s1 _ _ (hL.2 r hm),?_,zr rfl (aQ rfl ⟨⟨_,rfl⟩,rfl⟩)⟩⟩⟩);rw [zA];exact raw.each r.2 (zK.mpr ⟨r,hm,rfl⟩)
  rintro σ H5 ⟨⟨v2,rfl⟩,rfl⟩;refine (zr rfl ⟨pm,fs,zr rfl ⟨hL.same s1,raw,λH2 s2=>(zr rfl (aQ rfl ?_))⟩⟩);have Oz:=s1.trans s2;refine (zr rfl ⟨pm,rfl,⟨_,aU.of (Oz _ _ hL.1)⟩,?_⟩);refine (let W5:IC:=λi τ acc H5=>∃ ts:List (Addr×M4),(∃ t0,τ=[t0])/\acc=(ts.map λa=>V.ref a.1)/\ts.map (·.2)=(fs.take i).map (λa=>a.2.norm)/\dS H5 ts/\aG H H5;cU (K:=K) (a:=pm) (xs:=fs.map λa=>V.ref a.1) W5 ⟨[],⟨_,rfl⟩,rfl,rfl,(λ_ z=>nomatch z),Oz⟩ (by rw [zA];omega) ?_ ?_ ?_)
  ·rintro i τ acc H5 ⟨ts,⟨t0,rfl⟩,rfl,WY,rw5,sm⟩;have:=congrArg List.length WY;rw [zA,zA,zV] at this;exact ⟨by rw [zA];omega,aU.of (sm _ _ hL.1)⟩
  ·rintro i x τ acc H5 C hx ⟨ts,⟨t0,rfl⟩,rfl,WY,rw5,sm⟩ hC;obtain ⟨r,hr,rfl⟩:=wY hx;refine (zr rfl ⟨r.1,r.2,rfl,sm _ _ (hL.2 r (zB hr)),λt' H6 s6 Yt=>hC _ _ _ ⟨ts++[(t',r.2.norm)],⟨_,rfl⟩,by rw [zE];rfl,by rw [zE,we hr,zE,WY];rfl,λa ha=>?_,sm.trans s6⟩⟩);rcases zW.mp ha with h | h
   ·exact s6 _ _ (rw5 a h)
   ·cases zJ.mp h;exact Yt
  rintro τ acc H5 ⟨ts,⟨t0,rfl⟩,rfl,WY,rw5,sm⟩ lt c8;rw [zA,zq] at WY;have lts:ts.length=fs.length:=by have:=congrArg List.length WY;rwa [zA,zA] at this
  have sn:=xx (o:=HO.lst (ts.map λa=>V.ref a.1)) c8;have h6:upd H5 lt (HO.lst (ts.map λa=>V.ref a.1)) lt=some (.lst (ts.map λa=>V.ref a.1)):=xq;have s6:=sm.trans sn;have rw6:=rw5.br (bN.same sn);generalize upd H5 lt (HO.lst (ts.map λa=>V.ref a.1))=H6 at *;refine (zr rfl ⟨pr,zr rfl (.inl ⟨aU.of (s6 _ _ hp),λtr htr=>?_⟩)⟩);have s7:=xx (o:=HO.tup (aa.map V.int)) htr;have h7r:upd H6 tr (HO.tup (aa.map V.int)) tr=some (.tup (aa.map V.int)):=xq;have rw7:=rw6.br (bN.same s7);have h7:=s7 _ _ h6;generalize upd H6 tr (HO.tup (aa.map V.int))=H7 at *;have m7:=L2.MT.same mt (s6.trans s7);refine (zr rfl ⟨lt,ts.map (λa=>(a.1,a.2.ints)),rfl,by rw [zo];exact h7,by rw [zA];omega,m7,λx hx=>?_,λl qs H8 hl8 b8 m8 h8 pm8 so8=>?_⟩)
  ·obtain ⟨y,hy,rfl⟩:=zK.mp hx;exact ⟨rw7 y hy,rfl⟩
  obtain ⟨ps,pps,sps,rfl⟩:=ON pm8 so8;have gd:Good aa.length (ps.map (·.2)):=by
   refine Loose.good2 ?_ pps sps;have:=raw.loose;rw [zo] at this;rw [WY];exact this
  refine ⟨l,zr rfl (.inl ⟨aU.of h8,λtm htm=>⟨by show 2<=sizeLine;omega,λb hb=>?_⟩⟩)⟩;have neT:∀ x u,H7 x=some u->(∀ ys,u≠.lG ys)->x≠a.tP:=λx u e n z=>by
   rcases m7 with m | ⟨_,m,_⟩ <;> (rw [z,m] at e;cases e;exact n _ rfl)
  have s9:=(xx (o:=HO.tup (List.map (λa=>V.ref a.1) (List.map (λa:Addr×M4=>(a.1,a.2.ints)) ps))) htm).trans (xx (o:=HO.tup [V.ref tr,V.ref tm]) hb);refine q b tr tm ps _ (λx u n e=>s9 _ _ (b8 x u n (s7 _ _ (s6 _ _ e)))) (L2.MT.same m8 s9) ⟨xq,s9 _ _ (b8 _ _ (neT _ _ h7r (by intro ys z;cases z)) h7r),?_,λx hx=>?_⟩ gd ?_
  ·rw [wF (wC xq hb),xq,zo];rfl
  ·have h0:=rw7 x (pps.mem_iff.mp hx);exact s9 _ _ (b8 _ _ (neT _ _ h0 (by intro ys z;cases z)) h0)
  ·have:=pps.map (·.2);rw [WY] at this;exact this
theorem Fq:aZ P w K mg base cB 3 a.Aj a.Aw ["book", "thing"] (Oj):=by
 have AB:=q0 P w base T B;refine T.Ap.ok DD (λvs H Q E h=>?_) (λbW A outer s H vs Q E hr h=>?_)
 ·obtain ⟨b,x,t,_,_,_,_,rfl,_⟩:=h;rfl
 ·have nd:=DD.nd;have hu:=hr.units;obtain ⟨b,x,t,aa,tr,tm,ps,rfl,hb,ht,q⟩:=h;refine ⟨_,(xw (wN (wL (wG AB (hr.mono (by decide)) rfl T.Bq T.Br T.Bs .nil aC (xu (xv (pv 1) (xv xy (xv (wK qH (wP (wR rfl) (by rfl) T.cH PySem.boot_len (xu (xv (wO (wT rfl) (pv 0) xy (λ_ _=>rfl)) wH rfl))) xy) wH rfl) rfl) rfl)))))),?_⟩;refine (zr rfl (zr rfl (cT hb.book rfl ⟨tm,zr rfl ⟨.inr (bS.of hb.meets),aT rfl rfl ⟨x,t,gJ rfl ⟨ht,?_⟩⟩⟩⟩)));rw [zA];exact q
theorem Ko:aZ P w K mg base cB 3 a.Bx a.CY ["book", "thing"] (Oi):=by
 have AB:=q0 P w base T B;refine T.Ck.ok GA (λvs H Q E h=>?_) (λbW A outer s H vs Q E hr h=>?_)
 ·obtain ⟨b,x,t,_,_,_,_,rfl,_⟩:=h;rfl
 ·have nd:=GA.nd;have hu:=hr.units;obtain ⟨b,x,t,aa,tr,tm,ps,rfl,hb,ht,q⟩:=h;refine ⟨_,(xw (wN (wL (wG AB (hr.mono (by decide)) rfl T.Bq T.Br T.Bs .nil aC (xu (xv (pv 1) (xv xy (xv (wK qH (wP (wR rfl) (by rfl) T.cH PySem.boot_len (xu (xv (wO (wT rfl) (pv 0) xy (λ_ _=>rfl)) wH rfl))) xy) wH rfl) rfl) rfl)))))),?_⟩;refine (zr rfl (zr rfl (cT hb.book rfl ⟨tr,zr rfl ⟨.inr (bS.of hb.aa),aT rfl rfl ⟨x,t,gJ rfl ⟨ht,?_⟩⟩⟩⟩)));rw [zA];exact q
theorem IB:aZ P w K mg base cB 1 a.Da a.DU ["book", "time"] (Sq):=by
 refine T.Dz.ok Ix (λvs H Q E h=>?_) (λbW A outer s H vs Q E hr h=>?_)
 ·obtain ⟨b,t,_,_,_,_,rfl,_⟩:=h;rfl
 ·have nd:=Ix.nd;have hu:=hr.units;obtain ⟨b,t,aa,tr,tm,ps,rfl,hb,hn,q⟩:=h;refine ⟨_,(xw (wN (wL (wP (wR rfl) (by rfl) T.cH PySem.boot_len (xu (xv (qQ (own:=["meeting"]) (caps:=[1]) rfl (show aV ["meeting"] [1] ["book", "time"] (aB FG) _ from L2.gU) (fF rfl (wO (wT rfl) (pv 0) xy (λ_ _=>rfl))) (λ_ _ _ _=>(wE (i:=0) (show List.Nodup (["meeting", "time"]:List Str) from by decide +kernel) rfl rfl)) (λ_ _ _ _=>uf (wM nW (wO (wT rfl) (pv 0) xy (λ_ _=>rfl)) (pv 1) (aM _))) (λ_ _ _ _=>(pv 0))) wH rfl)))))),?_⟩;refine (zr rfl (cT hb.book rfl ⟨tm,rfl,⟨_,bS.of hb.meets⟩,?_⟩));refine (let W6:IC:=λi τ acc H5=>(∃ t0,τ=[t0,some (.int t)])/\acc.length=cnt ((ps.map (·.2)).take i) t/\acc.length<=i/\aG H H5;gW (K:=K) (a:=tm) (xs:=ps.map λa=>V.ref a.1) W6)
   ?_ (by rw [zA];omega) ?_ ?_ ?_
  ·exact ⟨⟨_,rfl⟩,rfl,zD _,aG.refl _⟩
  ·rintro i τ acc H5 ⟨⟨t0,rfl⟩,_,le,sm⟩;exact ⟨le,bS.of (sm _ _ hb.meets)⟩
  ·rintro i x τ acc H5 C hx ⟨⟨t0,rfl⟩,ec,le,sm⟩ hC;obtain ⟨r,hr,rfl⟩:=wY hx;have cy:=sm _ _ (hb.rows r (zB hr));have hm:(ps.map (·.2))[i]?=some r.2:=by rw [zS,hr];rfl
   refine (zr rfl (cT cy rfl (zr rfl (aT rfl rfl (zr rfl (dP (λc=>(zr rfl (hC _ _ _ ?_))) (λc=>hC _ _ _ ?_)))))))
   ·exact ⟨⟨_,rfl⟩,by rw [ND hm,if_pos c,zG,ec];rfl,by rw [zG];exact Nat.succ_le_succ le,sm⟩
   ·exact ⟨⟨_,rfl⟩,by rw [ND hm,if_neg c,ec];rfl,by omega,sm⟩
  ·rintro τ acc H5 ⟨⟨t0,rfl⟩,ec,le,sm⟩ l hl;have e:(ps.map λa=>V.ref a.1).length=(ps.map (·.2)).length:=by simp
   rw [e,zq] at ec;refine ⟨l,zr rfl ⟨.inl (aU.of xq),?_⟩⟩;rw [ec];exact q _ (sm.trans (xx hl))
theorem GH:aZ P w K mg base cB 1 a.FD a.Hj ["book"] (Xu):=by
 refine T.Gw.ok Mq (λvs H Q E h=>?_) (λbW A outer s H vs Q E hr h=>?_)
 ·obtain ⟨b,_,_,_,_,rfl,_⟩:=h;rfl
 ·have nd:=Mq.nd;have hu:=hr.units;obtain ⟨b,aa,tr,tm,ps,rfl,hb,gd,q⟩:=h;refine cz ?_;intro Y
  let B0:Bk Y ((nb (aq GY) 1).drop 1):=⟨_,(xw (wN (wv (dI zj zd zf wt (pv 1) (xu (xv (wg (xu (xv (pv 2) (xv (pv 4) (xv (pv 3) (xv (pv 5) wH rfl) rfl) rfl) rfl))) wH rfl))))))⟩
  let B1:Bk Y (nb (aq GY) 1):=⟨_,(xw (wJ (wv (dI zj zd zf wt (pv 1) (xu (xv (wg (xu (xv (pv 2) (xv (pv 3) (xv (pv 4) (xv (pv 5) wH rfl) rfl) rfl) rfl))) wH rfl)))) B0.bl))⟩
  let B2:Bk Y ((aq GY).drop 1):=⟨_,(xw (wJ (qG PassesOwn.never rfl (nR rfl rfl T.dc (xu (xv (wO (wT rfl) (pv 0) xy (λ_ _=>rfl)) wH rfl))) (wX (n:=2) rfl rfl (wD (wE (i:=2) nd rfl rfl) (wD (wX (n:=4) rfl rfl (wD (wE (i:=3) nd rfl rfl) (wD (wE (i:=4) nd rfl rfl) (wD (wE (i:=5) nd rfl rfl) (wD (wE (i:=6) nd rfl rfl) wW))))) wW))) B1.ps) (wN (wL (pv 1)))))⟩
  refine ⟨_,(xw (wJ (wI (i:=1) nd rfl rfl (wc qP)) B2.bl)),?_⟩;have line:=cP;have l60:=gd.len;refine ⟨za _,λl hl=>?_⟩;have lQ:=hb.same (xx (o:=HO.lst []) hl);refine (zr rfl (cT lQ.book rfl ⟨tm,rfl,⟨_,bS.of lQ.meets⟩,?_⟩));refine (let W7:IV:=λi σ H4=>(∃ v2 v3 v4 v5 v6,σ=[some (.ref b),some (.ref l),v2,v3,v4,v5,v6])/\aG H H4/\∃ ws:List (Addr×W4),H4 l=some (.lst (ws.map λa=>V.ref a.1))/\(∀ a∈ws,H4 a.1=some (.tup a.2.vs))/\ws.map (·.2)=cM (ps.map (·.2)) i/\ws.length=2 * i;Rn (K:=K) (a:=tm) (xs:=ps.map λa=>V.ref a.1) W7)
   ⟨⟨_,_,_,_,_,rfl⟩,xx hl,[],xq,(λ_ z=>nomatch z),rfl,rfl⟩ (λi σ H4 _ h4=>bS.of ((hb.same h4.2.1).meets)) ?_ ?_
  ·rintro i x q' σ H4 hx hq ⟨⟨v2,v3,v4,v5,v6,rfl⟩,sm,ws,h4,hr,ew,lw⟩;obtain ⟨r,p8,rfl⟩:=wY hx;have hi:i < ps.length:=(zC.mp p8).1;have hm:(ps.map (·.2))[i]?=some r.2:=by rw [zS,p8];rfl
   obtain ⟨a1,a2,a3,a4,a5,_⟩:=gd.at (zB p8);have ji:=sm.trans (xx (o:=HO.tup [.int i,.ref r.1]) hq);have cy:=(hb.same ji).rows r (zB p8);have h5:=(xx (o:=HO.tup [.int i,.ref r.1]) hq) _ _ h4;refine ⟨q',zr rfl ⟨bS.of xq,rfl,gJ rfl (gJ rfl (pS cy ⟨rfl,?_⟩))⟩⟩;refine (zr rfl ⟨.inl ⟨rfl,_,aU.of h5⟩,zr rfl (zr rfl (zr rfl (zr rfl ⟨by show 4<=sizeLine;omega,λt1 Rb=>⟨l,aT rfl rfl ⟨xx Rb _ _ h5,by rw [zA];omega,?_⟩⟩⟩)))⟩);have n1:t1≠l:=(wC h5 Rb).symm;refine (zr rfl ⟨.inl ⟨rfl,_,aU.of xq⟩,zr rfl (zr rfl (zr rfl (zr rfl ⟨by show 4<=sizeLine;omega,λt2 mw=>⟨l,aT rfl rfl ⟨xx mw _ _ xq,by rw [zG,zA];show ws.length + 1 < sizeLine;omega,?_⟩⟩⟩)))⟩);have n2:t2≠l:=λz=>by rw [z,xq] at mw;cases mw
   have n12:t1≠t2:=λz=>by rw [<-z,wF n1,xq] at mw;cases mw
   have e1:(r.2.lo.toNat:Int)=r.2.lo:=yi a1;have e2:(r.2.hi.toNat:Int)=r.2.hi:=yi (by omega);have iP:aG H (upd (upd (upd (upd (upd H4 q' (.tup [.int i,.ref r.1])) t1 (.tup [.int i,.int r.2.lo,.int r.2.hi,.int r.2.t])) l (.lst ((ws.map λa=>V.ref a.1)++[.ref t1]))) t2 (.tup [.int i,.int r.2.hi,.int r.2.lo,.int r.2.t])) l (.lst ((ws.map λa=>V.ref a.1)++[.ref t1]++[.ref t2]))):=
    aG.put hl ((aG.put hl (ji.trans (xx Rb))).trans (xx mw))
   refine ⟨⟨_,_,_,_,_,rfl⟩,iP,ws++[(t1,⟨i,⟨r.2.lo.toNat,r.2.hi.toNat,r.2.t⟩⟩),(t2,⟨i,⟨r.2.hi.toNat,r.2.lo.toNat,r.2.t⟩⟩)],?_,λa ha=>?_,?_,?_⟩
   ·rw [xq,zE,xD];rfl
   ·rcases zW.mp ha with h | h
    ·have:=hr a h;have na:a.1≠l:=cZ this h4 (by intro z;cases z);have b1:=xx (o:=HO.tup [.int i,.ref r.1]) hq _ _ this;have b2:=xx (o:=HO.tup [.int i,.int r.2.lo,.int r.2.hi,.int r.2.t]) Rb _ _ b1;rw [wF na];exact xx mw _ _ (by rw [wF na];exact b2)
    ·simp only [zH,yW,or_false] at h;rcases h with rfl | rfl
     ·rw [wF n1];refine xx mw _ _ ?_;rw [wF n1,xq];show _=some (HO.tup [.int i,.int (r.2.lo.toNat:Int),.int (r.2.hi.toNat:Int),.int r.2.t]);rw [e1,e2]
     ·rw [wF n2,xq];show _=some (HO.tup [.int i,.int (r.2.hi.toNat:Int),.int (r.2.lo.toNat:Int),.int r.2.t]);rw [e1,e2]
   ·rw [zE,ew,iX hm];rfl
   ·rw [zG,lw];show 2 * i + 2=_;omega
  ·rintro σ H4 ⟨⟨v2,v3,v4,v5,v6,rfl⟩,sm,ws,h4,hr,ew,lw⟩;rw [zA] at ew;exact (zr rfl (q l ws _ hl sm h4 hr ew))
theorem HF:aZ P w K mg base cB 1 a.BX a.Dk ["book", "number", "walker"] (Qx):=by
 refine T.CJ.ok Hq (λvs H Q E h=>?_) (λbW A outer s H vs Q E hr h=>?_)
 ·obtain ⟨b,k,v,_,_,_,_,_,rfl,_⟩:=h;rfl
 ·have nd:=Hq.nd;have hu:=hr.units;obtain ⟨b,k,v,aa,tr,tm,ps,m,rfl,hb,hm,q⟩:=h;refine ⟨_,(xw (wJ (wu (wO (wT rfl) (wO (wT rfl) (pv 0) xy (λ_ _=>rfl)) (pv 1) (λ_ _=>rfl)) (wX (n:=4) rfl rfl (wD (wE (i:=3) nd rfl rfl) (wD (wE (i:=4) nd rfl rfl) (wD (wE (i:=5) nd rfl rfl) (wD (wE (i:=6) nd rfl rfl) wW)))))) (wN (wL (jF (wM cY (pv 2) (pv 3) (aM _)) (pv 4) (pv 3)))))),?_⟩;have hk:k < ps.length:=by
   have:=(zC.mp hm).1;simpa using this
  have em:ps[k].2=m:=by
   rw [zS,zO hk] at hm;exact Option.some.inj hm
  have cy:=hb.rows _ (zx hk);rw [em] at cy;refine (zr rfl (cT hb.book rfl (zr rfl (cT hb.meets (wV (v:=V.ref ps[k].1) (by simp [hk])) (pS cy ?_)))));refine (zr rfl (zr rfl ⟨rfl,zr rfl (dP (λc=>?_) (λc=>?_))⟩))
  ·rw [if_pos (V.int.inj c)] at q;exact (zr rfl q)
  ·rw [if_neg λz=>c (by rw [z])] at q;exact (zr rfl q)
theorem Fp:aZ P w K mg base cB 1 a.BY a.Dl ["book", "walker", "number"] (XC):=by
 refine T.CK.ok Hr (λvs H Q E h=>?_) (λbW A outer s H vs Q E hr h=>?_)
 ·obtain ⟨b,k,x,_,_,_,_,rfl,_⟩:=h;rfl
 ·have nd:=Hr.nd;have hu:=hr.units;obtain ⟨b,k,x,aa,tr,tm,ps,rfl,hb,hn,q⟩:=h;refine ⟨_,(xw (wN (wL (qQ (own:=["other"]) (caps:=[2,1]) rfl (show aV ["other"] [2,1] ["book", "walker", "number"] (aB EE) _ from L2.gU) (fG rfl T.f9 (xu (xv (wP (wR rfl) (by rfl) T.cH PySem.boot_len (xu (xv (wO (wT rfl) (pv 0) xy (λ_ _=>rfl)) wH rfl))) wH rfl))) (λ_ _ _ _=>(wE (i:=0) (show List.Nodup (["other", "number", "walker"]:List Str) from by decide +kernel) rfl rfl)) (λ_ _ _ _=>qU) (λ_ _ _ _=>(jF (wM cY (pv 0) (pv 2) (aM _)) (pv 1) eY)))))),?_⟩;refine (zr rfl (cT hb.book rfl ⟨tr,zr rfl ⟨.inr (bS.of hb.aa),zr rfl ⟨by rw [zA];omega,by rw [zA];omega,?_⟩⟩⟩));refine (let W8:IC:=λi τ acc H5=>(∃ t0,τ=[t0,some (.int x),some (.int k)])/\acc=(rep i (aE k x)).map oV/\H5=H;O1 (lo:=0) (m:=(aa.map V.int).length) W8 ?_ (by rw [zA];omega) ?_ ?_ ?_)
  ·exact ⟨⟨_,rfl⟩,rfl,rfl⟩
  ·rintro i τ acc H5 ⟨⟨t0,rfl⟩,rfl,rfl⟩;rw [zA,qZ];exact zD _
  ·rintro i τ acc H5 C hi ⟨⟨t0,rfl⟩,rfl,rfl⟩ hC;have snoc:∀ v,oV (aE k x i)=v->(rep i (aE k x)).map oV++[v]=(rep (i + 1) (aE k x)).map oV:=λv e=>by
    unfold rep;rw [yj,zE,zE,<- e];rfl
   refine (zr rfl (zr rfl ⟨rfl,zr rfl (dP (λc=>(zr rfl (hC _ _ _ ⟨⟨_,rfl⟩,snoc _ ?_,rfl⟩))) (λc=>hC _ _ _ ⟨⟨_,rfl⟩,snoc _ ?_,rfl⟩))⟩))
   ·have:i=k:=by have:=V.int.inj c;omega
    unfold aE;rw [if_pos this];rfl
   ·have:i≠k:=λz=>c (by rw [z];simp);unfold aE;rw [if_neg this];rfl
  ·rintro τ acc H5 ⟨⟨t0,rfl⟩,rfl,rfl⟩ l hl;rw [zA];exact q l _ hl (xx hl) xq
theorem Ig:aZ P w K mg base cB 4 a.AF a.Bn ["book", "meeting"] (U8):=by
 have FT:=Fq P w base T B;refine T.AZ.ok EZ (λvs H Q E h=>?_) (λbW A outer s H vs Q E hr h=>?_)
 ·obtain ⟨_,_,_,_,_,_,rfl,_⟩:=h;rfl
 ·have nd:=EZ.nd;have hu:=hr.units;obtain ⟨b,n,aa,tr,tm,ps,rfl,hb,hn,q⟩:=h;refine ⟨_,(xw (wN (wa (qV (qF (wG FT (hr.mono (by decide)) rfl T.FM T.FN T.FO .nil aC (xu (xv (pv 0) (xv (pv 1) wH rfl) rfl))))) (xw (wN fE)) wQ))),?_⟩;refine (zr rfl (zr rfl ⟨b,.int (n:Int),Zr ("int") aa tr tm ps ⟨rfl,hb,rfl,zr rfl (aQ ?_ q)⟩⟩));have h1:(0:Int)<=n:=by omega
  have h2:(n:Int)<=(ps.length:Int) - 1:=by omega
  simp [j3,h1,h2]
theorem Iy:aZ P w K mg base cB 5 a.C6 a.DQ ["book", "meeting"] (Qw a.tP dN):=by
 have FE:=GI P w base T B;have Js:=Ig P w base T B;refine T.Dv.ok Iq (λvs H Q E h=>?_) (λbW A outer s H vs Q E hr h=>?_)
 ·obtain ⟨_,_,_,_,_,_,rfl,_⟩:=h;rfl
 ·have nd:=Iq.nd;have hu:=hr.units;obtain ⟨b,n,aa,tr,tm,ps,rfl,hb,hn,ud,vF,PJ,gd,mt,q⟩:=h;refine cz ?_;intro Y
  let B0:Bk Y ((aq Et).drop 2):=⟨_,(xw (wN (wL (wG FE (hr.mono (by decide)) rfl T.HK T.HQ T.HW .nil aC (xu (xv (qY (ff rfl) (by rfl) T.pL yr (xu (xv (pv 2) wH rfl))) (xv (qQ (own:=["number", "row"]) (caps:=[1]) rfl (show aV ["number", "row"] [1] ["book", "meeting", "rooms", "meetings"] (aB Et) _ from L2.gU) (nR rfl rfl T.dc (xu (xv (pv 3) wH rfl))) (λ_ _ _ _=>(wX (n:=2) rfl rfl (wD (wE (i:=0) (show List.Nodup (["number", "row", "meeting"]:List Str) from by decide +kernel) rfl rfl) (wD (wE (i:=1) (show List.Nodup (["number", "row", "meeting"]:List Str) from by decide +kernel) rfl rfl) wW)))) (λ_ _ _ _=>uf (wM lJ (pv 0) (pv 2) (aM _))) (λ_ _ _ _=>(pv 1))) wH rfl) rfl))))))⟩
  refine ⟨_,(xw (wJ (wv (wG Js (hr.mono (by decide)) rfl T.IK T.IU T.Je .nil aC (xu (xv (pv 0) (xv (pv 1) wH rfl) rfl)))) (wJ (wu (pv 0) (wX (n:=2) rfl rfl (wD (wE (i:=2) nd rfl rfl) (wD (wE (i:=3) nd rfl rfl) wW)))) B0.bl))),?_⟩;have line:=cP;have OH:=gd.len;refine (zr rfl (zr rfl (ex6 b n aa tr tm ps ⟨rfl,hb,hn,?_⟩)));refine (zr rfl (R3 hb.book ?_));refine (zr rfl ⟨tr,zr rfl ⟨.inr (bS.of hb.aa),λlr Nj=>?_⟩⟩);have s1:=xx (o:=HO.lst (aa.map V.int)) Nj;have h1:upd H lr (HO.lst (aa.map V.int)) lr=some (.lst (aa.map V.int)):=xq;generalize upd H lr (HO.lst (aa.map V.int))=H1 at *;have lQ:=hb.same s1;have QV:=L2.MT.same mt s1;refine (zr rfl ⟨tm,rfl,⟨_,bS.of lQ.meets⟩,?_⟩);refine (let W9:IC:=λi τ acc H5=>(∃ t0 t1,τ=[t0,t1,some (.int (n:Int))])/\acc=((ps.take i).eraseIdx n).map (λa=>V.ref a.1)/\aG H1 H5;oZ (K:=K) (a:=tm) (xs:=ps.map λa=>V.ref a.1) W9 ⟨⟨_,_,rfl⟩,rfl,aG.refl _⟩ (by rw [zA];omega) ?_ ?_ ?_)
  ·rintro i τ acc H5 ⟨⟨t0,t1,rfl⟩,rfl,sm⟩;exact ⟨by rw [zA];exact yC (List.length_eraseIdx_le _ _) (by rw [zV];exact Nat.min_le_left _ _),bS.of (sm _ _ lQ.meets)⟩
  ·rintro i x k τ acc H5 C hx hk ⟨⟨t0,t1,rfl⟩,rfl,sm⟩ hC;obtain ⟨r,hr,rfl⟩:=wY hx;refine (R3 xq ?_);refine (zr rfl (zr rfl ⟨rfl,zr rfl ?_⟩));by_cases c:i=n
   ·subst c;exact aQ (by simp) (hC _ _ _ ⟨⟨_,_,rfl⟩,by rw [rB hr],sm.trans (xx hk)⟩)
   ·refine bP (by simp;omega) ?_;exact (zr rfl (hC _ _ _ ⟨⟨_,_,rfl⟩,by rw [mC hr c,zE];rfl,sm.trans (xx hk)⟩))
  ·rintro τ acc H5 ⟨⟨t0,t1,rfl⟩,rfl,sm⟩ lc iA;rw [zA,zq];have s2:=sm.trans (xx (o:=HO.lst ((ps.eraseIdx n).map λa=>V.ref a.1)) iA);have gf:Good aa.length ((ps.eraseIdx n).map (·.2)):=gd.sub ((yG ps n).map _);refine ⟨lr,lc,aa,ps.eraseIdx n,rfl,s2 _ _ h1,ud,vF,PJ,⟨xq,λx hx=>s2 _ _ (lQ.rows x ((yG ps n).subset hx))⟩,gf.raw,L2.MT.same QV s2,λb' iY eO PM H' b8 mt8 dZ lR WG=>?_⟩;refine q b' iY eO PM H' (λx u n e=>b8 x u n (s2 _ _ (s1 _ _ e))) mt8 dZ ?_;have e2:(ps.eraseIdx n).map (λa=>a.2.norm)=(ps.eraseIdx n).map (·.2):=by
    have:=gf.norm;rw [zo] at this;exact this
   rw [e2] at WG;rw [lR.eq gf WG,Rr]
theorem Mu:aZ P w K mg base cB 5 a.DI a.Ew ["book", "end"] (Se a.tP dN):=by
 have Gu:=HG P w base T B;have FE:=GI P w base T B;refine T.D8.ok Kc (λvs H Q E h=>?_) (λbW A outer s H vs Q E hr h=>?_)
 ·obtain ⟨_,_,_,_,_,_,rfl,_⟩:=h;rfl
 ·have nd:=Kc.nd;have hu:=hr.units;obtain ⟨b,e,aa,tr,tm,ps,rfl,hb,ud,vF,PJ,gd,e9,lt,mt,q⟩:=h;refine cz ?_;intro Y
  let B0:Bk Y ((aq Fk).drop 2):=⟨_,(xw (wN (wL (wG FE (hr.mono (by decide)) rfl T.HK T.HQ T.HW .nil aC (xu (xv (qY (ff rfl) (by rfl) T.pL yr (xu (xv (pv 2) wH rfl))) (xv (qQ (own:=["one", "other", "when", "many"]) (caps:=[1]) rfl (show aV ["one", "other", "when", "many"] [1] ["book", "end", "rooms", "meetings"] (aB Fk) _ from L2.gU) (fF rfl (pv 3)) (λ_ _ _ _=>(wX (n:=4) rfl rfl (wD (wE (i:=0) (show List.Nodup (["one", "other", "when", "many", "end"]:List Str) from by decide +kernel) rfl rfl) (wD (wE (i:=1) (show List.Nodup (["one", "other", "when", "many", "end"]:List Str) from by decide +kernel) rfl rfl) (wD (wE (i:=2) (show List.Nodup (["one", "other", "when", "many", "end"]:List Str) from by decide +kernel) rfl rfl) (wD (wE (i:=3) (show List.Nodup (["one", "other", "when", "many", "end"]:List Str) from by decide +kernel) rfl rfl) wW)))))) (λ_ _ _ _=>qU) (λ_ _ _ _=>(wg (xu (xv (pv 0) (xv (pv 1) (xv (wK qH (pv 4) (pv 2)) (xv (pv 3) wH rfl) rfl) rfl) rfl))))) wH rfl) rfl))))))⟩
  refine ⟨_,(xw (wJ (wa (PW.pt (iQ (qV (qF (wG Gu (hr.mono (by decide)) rfl T.IM T.IY T.Jg .nil aC (xu (xv (pv 1) wH rfl))))) (eU (wM lK (pv 1) (fU (v:=V.int 1000000000) rfl T.gZ ⟨_,rfl⟩) (aM _))))) (xw (wN fE)) wQ) (wJ (wu (pv 0) (wX (n:=2) rfl rfl (wD (wE (i:=2) nd rfl rfl) (wD (wE (i:=3) nd rfl rfl) wW)))) B0.bl))),?_⟩;have line:=cP;have OH:=gd.len;refine (zr rfl ⟨.int e, "int", rfl,rfl,zr rfl (aQ rfl (zr rfl (aT rfl rfl (zr rfl (dP (λc=>absurd c (by omega)) (λc=>?_))))))⟩);refine (zr rfl (R3 hb.book ?_));refine (zr rfl ⟨tr,zr rfl ⟨.inr (bS.of hb.aa),λlr Nj=>?_⟩⟩);have s1:=xx (o:=HO.lst (aa.map V.int)) Nj;have h1:upd H lr (HO.lst (aa.map V.int)) lr=some (.lst (aa.map V.int)):=xq;generalize upd H lr (HO.lst (aa.map V.int))=H1 at *;have lQ:=hb.same s1;have QV:=L2.MT.same mt s1;refine (zr rfl ⟨tm,rfl,⟨_,bS.of lQ.meets⟩,?_⟩);refine (let W10:IC:=λi τ acc H5=>∃ fs:List (Addr×M4),(∃ t0 t1 t2 t3,τ=[t0,t1,t2,t3,some (.int e)])/\acc=(fs.map λa=>V.ref a.1)/\fs.map (·.2)=((ps.map (·.2)).take i).map (lF e)/\dS H5 fs/\aG H1 H5;gW (K:=K) (a:=tm) (xs:=ps.map λa=>V.ref a.1) W10 ⟨[],⟨_,_,_,_,rfl⟩,rfl,rfl,(λ_ z=>nomatch z),aG.refl _⟩ (by rw [zA];omega) ?_ ?_ ?_)
  ·rintro i τ acc H5 ⟨fs,_,rfl,ef,_,s5⟩;have:=congrArg List.length ef;rw [zA,zA,zV] at this;exact ⟨by rw [zA];omega,bS.of (s5 _ _ lQ.meets)⟩
  ·rintro i x τ acc H5 C hx ⟨fs,⟨t0,t1,t2,t3,rfl⟩,rfl,ef,rf,s5⟩ hC;obtain ⟨r,hr,rfl⟩:=wY hx;have hM:(ps.map (·.2))[i]?=some r.2:=by rw [zS,hr];rfl
   have cy:H5 r.1=some (.tup [.int r.2.lo,.int r.2.hi,.int r.2.t,.int r.2.m]):=s5 _ _ (lQ.rows r (zB hr));refine (pS cy (zr rfl (zr rfl (zr rfl (zr rfl (aT rfl rfl (zr rfl ⟨by show 4<=sizeLine;omega,λt ht=>hC _ _ _ ?_⟩)))))));refine ⟨fs++[(t,lF e r.2)],⟨_,_,_,_,rfl⟩,by rw [zE];rfl,by rw [zE,we hM,zE,ef];rfl,λa ha=>?_,s5.trans (xx ht)⟩;rcases zW.mp ha with h | h
   ·exact xx ht _ _ (rf a h)
   ·cases zJ.mp h;exact xq
  ·rintro τ acc H5 ⟨fs,_,rfl,ef,rf,s5⟩ lc iA;rw [zA,List.take_of_length_le (by rw [zA];exact zD _)] at ef;have s2:=xx (o:=HO.lst (fs.map λa=>V.ref a.1)) iA;have lo:=Turn.loose gd e9 lt;have rT:=Turn.raw gd e9 lt;rw [<-ef] at rT lo;refine ⟨lr,lc,aa,fs,rfl,s2 _ _ (s5 _ _ h1),ud,vF,PJ,⟨xq,λx hx=>s2 _ _ (rf x hx)⟩,rT,L2.MT.same QV (s5.trans s2),λb' iY eO PM H' b8 mt8 dZ lR WG=>?_⟩;refine q b' iY eO PM H' (λx u n z=>b8 x u n (s2 _ _ (s5 _ _ (s1 _ _ z)))) mt8 dZ lR ?_;unfold Turn;rw [<-ef];have e2:fs.map (λa=>a.2.norm)=fs.map (·.2):=by
    refine yH λx hx=>?_;obtain ⟨l1,l2,_⟩:=lo.each x.2 (zK.mpr ⟨x,hx,rfl⟩);unfold M4.norm;rw [show min x.2.lo x.2.hi=x.2.lo by omega,show max x.2.lo x.2.hi=x.2.hi by omega]
   rw [<-e2];exact WG
theorem Gc:aZ P w K mg base cB 1 a.Ai a.AI ["self", "many"] (U9 a.Aa):=by
 refine T.Aq.ok DV (λvs H Q E h=>?_) (λbW A outer s H vs Q E hr h=>?_)
 ·obtain ⟨_,_,_,rfl,_⟩:=h;rfl
 ·have nd:=DV.nd;have hu:=hr.units;obtain ⟨x,dx,n,rfl,hx,n3,q⟩:=h;refine cz ?_;intro Y
  let B0:Bk Y ((aq qD).drop 1):=⟨_,(xw (wJ (nP (pv 0) (qQ (own:=["point"]) (caps:=[]) rfl (show aV ["point"] [] ["self", "many"] (aB qD) _ from L2.gU) (fG rfl T.f9 (xu (xv (pv 1) wH rfl))) (λ_ _ _ _=>(wE (i:=0) (show List.Nodup (["point"]:List Str) from by decide +kernel) rfl rfl)) (λ_ _ _ _=>qU) (λ_ _ _ _=>(wc qP))) rfl) (wJ (nP (pv 0) (wc qP) rfl) (wN (nP (pv 0) (wc qP) rfl)))))⟩
  refine ⟨_,(xw (wJ (nP (pv 0) xy rfl) B0.bl)),?_⟩;have line:8000<=sizeLine:=by rw [sizeLine_eq];decide
  refine (zr rfl ⟨x,_,dx,zr rfl ⟨hx,T.Ag,T.cg,by decide,?_⟩⟩);have b1:cL x H (upd H x (.ins a.Aa dx [("source", .int 0)])):=cL.set;have i1:upd H x (.ins a.Aa dx [("source", .int 0)]) x=some (.ins a.Aa dx [("source", .int 0)]):=xq;show jo _ _ _ _ (upd H x (.ins a.Aa dx [("source", .int 0)]));generalize upd H x (.ins a.Aa dx [("source", .int 0)])=H1 at b1 i1 ⊢;refine (zr rfl ⟨(n:Int),rfl,by omega,by omega,?_⟩);refine (let W11:IC:=λi τ acc H5=>∃ rs:List Addr,(∃ t0,τ=[t0])/\acc=rs.map V.ref/\rs.length=i/\aG H1 H5/\rs.Nodup/\∀ r∈rs,H1 r=none/\H5 r=some (.lst []);NB (lo:=0) (m:=n) W11 ⟨[],⟨_,rfl⟩,rfl,rfl,aG.refl _,.nil,λ_ h=>nomatch h⟩ (by omega) ?_ ?_ ?_)
  ·rintro i τ acc H5 ⟨rs,_,rfl,rfl,_⟩;rw [zA];exact zD _
  ·rintro i τ acc H5 C hi ⟨rs,⟨t0,rfl⟩,rfl,rfl,s1,nd,hr⟩ hC;refine ⟨by show 0<=_;omega,λp hp=>?_⟩;refine hC _ _ _ ⟨rs++[p],⟨_,rfl⟩,by rw [zE];rfl,by rw [zG];rfl,s1.trans (xx hp),?_,λr RO=>?_⟩
   ·exact List.nodup_append.mpr ⟨nd,zw.mpr ⟨by simp,.nil⟩,λb hb c hc=>by rw [zJ.mp hc];exact wC (hr b hb).2 hp⟩
   ·rcases zW.mp RO with h | h
    ·exact ⟨(hr r h).1,by rw [wF (wC (hr r h).2 hp)];exact (hr r h).2⟩
    ·rw [zJ.mp h];exact ⟨s1.free hp,xq⟩
  ·rintro τ acc H5 ⟨rs,_,rfl,hl,s1,nd,hr⟩ lA hA;have s2:aG H5 (upd H5 lA (.lst (rs.map V.ref))):=xx hA;have a2:upd H5 lA (.lst (rs.map V.ref)) lA=some (.lst (rs.map V.ref)):=xq;have fA:=s1.free hA;have nA:lA ∉ rs:=λh=>wC (hr _ h).2 hA rfl;generalize upd H5 lA (.lst (rs.map V.ref))=H2 at s2 a2 ⊢;have hr2:∀ r∈rs,H2 r=some (.lst []):=λr h=>s2 _ _ (hr r h).2;have s2:=s1.trans s2;have i2:=s2 _ _ i1;have xA:lA≠x:=Ne.symm (wC i1 fA);have xr:∀ r∈rs,r≠x:=λr h=>Ne.symm (wC i1 (hr r h).1);refine (zr rfl ⟨x,_,dx,zr rfl ⟨i2,T.Ag,T.cW,by decide,?_⟩⟩);have b3:cL x H2 (upd H2 x (.ins a.Aa dx [("source", .int 0),("arcs", .ref lA)])):=cL.set;have i3:upd H2 x (.ins a.Aa dx [("source", .int 0),("arcs", .ref lA)]) x=some (.ins a.Aa dx [("source", .int 0),("arcs", .ref lA)]):=xq;show jo _ _ _ _ (upd H2 x (.ins a.Aa dx [("source", .int 0),("arcs", .ref lA)]));generalize upd H2 x _=H3 at b3 i3 ⊢;have a3:=b3 _ _ xA a2;have VW:∀ r∈rs,H3 r=some (.lst []):=λr h=>b3 _ _ (xr r h) (hr2 r h);have c3:cL x H H3:=(b1.trans (aG.but s2)).trans b3;refine ⟨by show 0<=_;omega,λlE hE=>?_⟩;have s4:aG H3 (upd H3 lE (.lst [])):=xx hE;have e4:upd H3 lE (.lst []) lE=some (.lst []):=xq;generalize upd H3 lE _=H4 at s4 e4 ⊢;have xE:lE≠x:=Ne.symm (wC i3 hE);have nE:lE ∉ rs:=λh=>wC (VW _ h) hE rfl;have AE:lA≠lE:=wC a3 hE;refine (zr rfl ⟨x,_,dx,zr rfl ⟨s4 _ _ i3,T.Ag,T.cI,by show 2 < 1000;decide,?_⟩⟩);have b5:cL x H4 (upd H4 x (.ins a.Aa dx [("source", .int 0),("arcs", .ref lA),("ends", .ref lE)])):=cL.set;have i5:upd H4 x (.ins a.Aa dx [("source", .int 0),("arcs", .ref lA),("ends", .ref lE)]) x=some (.ins a.Aa dx [("source", .int 0),("arcs", .ref lA),("ends", .ref lE)]):=xq;have ep:eX "ends" (.ref lE) [("source", .int 0),("arcs", .ref lA)]=([("source", .int 0),("arcs", .ref lA),("ends", .ref lE)]:List (Str×V)):=by rw [eX,if_neg (by decide),eX,if_neg (by decide),eX]
   rw [ep];generalize upd H4 x _=H6 at b5 i5 ⊢;have b6:cL x H3 H6:=cL.trans (aG.but s4) b5;refine ⟨by show 0<=_;omega,λlS hS=>?_⟩;have s7:aG H6 (upd H6 lS (.lst [])):=xx hS;have e7:upd H6 lS (.lst []) lS=some (.lst []):=xq;generalize upd H6 lS _=H7 at s7 e7 ⊢;have xS:lS≠x:=Ne.symm (wC i5 hS);have nS:lS ∉ rs:=λh=>wC (b6 _ _ (xr _ h) (VW _ h)) hS rfl;have AS:lA≠lS:=wC (b6 _ _ xA a3) hS;have ES:lE≠lS:=wC (b5 _ _ xE e4) hS;have b7:cL x H6 (upd H7 x (.ins a.Aa dx [("source", .int 0),("arcs", .ref lA),("ends", .ref lE),("spare", .ref lS)])):=cL.trans (aG.but s7) cL.set;refine (zr rfl ⟨x,_,dx,zr rfl ⟨s7 _ _ i5,T.Ag,T.bO,by show 3 < 1000;decide,q lA lE lS rs _ (c3.trans (b6.trans b7)) ⟨⟨xq,b7 _ _ xA (b6 _ _ xA a3),λp r hp=>b7 _ _ (xr r (zB hp)) (b6 _ _ (xr r (zB hp)) (VW r (zB hp))),b7 _ _ xE (b5 _ _ xE e4),by rw [wF xS];exact e7,?_⟩,hl,(λ_ h=>by cases h),⟨rfl,(λa h=>absurd h (by simp)),(λk x h=>by cases h)⟩,n3,by show 0<=3000;decide⟩ ?_⟩⟩)
   ·exact zw.mpr ⟨by simp [AE,AS,nA],zw.mpr ⟨by simp [ES,nE],zw.mpr ⟨nS,nd⟩⟩⟩
   ·intro b hb;rcases zH.mp hb with rfl | hb
    ·exact b1.free xA fA
    rcases zH.mp hb with rfl | hb
    ·exact c3.free xE hE
    rcases zH.mp hb with rfl | hb
    ·exact (c3.trans b6).free xS hS
    exact b1.free (xr b hb) (hr b hb).1
theorem JF:aZ P w K mg base cB 1 a.Be a.CD ["self", "here", "there", "most"] (Xx a.Aa):=by
 refine T.Bf.ok F6 (λvs H Q E h=>?_) (λbW A outer s H vs Q E hr h=>?_)
 ·obtain ⟨_,_,_,_,_,_,_,_,_,_,_,_,_,rfl,_⟩:=h;rfl
 ·have nd:=F6.nd;have hu:=hr.units;obtain ⟨x,dx,lA,lE,lS,as,src,n,ts,sp,h0,t0,m0,rfl,st,hh,ht,hm,hl,q⟩:=h;refine cz ?_;intro Y
  let B0:Bk Y ((aq qg).drop 3):=⟨_,(xw (wJ (sd (pv 0) (wc (xu (xv (pv 2) (xv (pv 1) wH rfl) rfl))) Tv) (wJ (sd (pv 0) (wc (xu (xv (pv 3) (xv xy wH rfl) rfl))) Tv) (wN (wL (pv 4))))))⟩
  let B1:Bk Y ((aq qg).drop 2):=⟨_,(xw (wJ (wv (dI zj zd zf wt (wO (wS rfl) (eZ (pv 0) rfl) (pv 2) (λ_ _=>rfl)) (xu (xv (wK wb (wK qI xy (pv 4)) xy) wH rfl)))) B0.bl))⟩
  let B2:Bk Y ((aq qg).drop 1):=⟨_,(xw (wJ (wv (dI zj zd zf wt (wO (wS rfl) (eZ (pv 0) rfl) (pv 1) (λ_ _=>rfl)) (xu (xv (wK qI xy (pv 4)) wH rfl)))) B1.bl))⟩
  refine ⟨_,(xw (wJ (wI (i:=4) nd rfl rfl (wK qr (wP (wR rfl) (by rfl) T.cH PySem.boot_len (xu (xv (eZ (pv 0) rfl) wH rfl))) xy)) B2.bl)),?_⟩;have line:8000<=sizeLine:=by rw [sizeLine_eq];decide
  have Qv:=st.raw;obtain ⟨lh,hlh⟩:∃ l,as[h0]?=some l:=⟨_,zO (by rw [st.len];exact hh)⟩;obtain ⟨lt,c8⟩:∃ l,as[t0]?=some l:=⟨_,zO (by rw [st.len];exact ht)⟩;have e0:(((b9 ts).map V.int).length:Int) / 2=(ts.length:Int):=by rw [zA,oW];omega
  have L8:=jh (ts:=ts) (p:=h0) ts.length;have L9:=jh (ts:=ts) (p:=t0) ts.length;refine (zr rfl ⟨x,_,dx,gJ rfl ⟨Qv.ins,T.Ag,T.cI,rfl,lE,zr rfl ⟨.inl (aU.of Qv.ends),aT rfl rfl ⟨⟨by decide,by decide⟩,?_⟩⟩⟩⟩);show dQ 4 (V.int (((((b9 ts).map V.int).length:Nat):Int) / 2)) _ _ _;rw [e0];refine (zr rfl ⟨x,_,dx,gJ rfl ⟨Qv.ins,T.Ag,T.cW,rfl,zr rfl ⟨lA,_,_,V.ref lh,rfl,rfl,aU.of Qv.mE,wV (by rw [zS,hlh];rfl),.inl ⟨rfl,_,aU.of (Qv.rws _ _ hlh)⟩,zr rfl (aT rfl rfl ⟨.inl ⟨by decide,by decide⟩,lh,aT rfl rfl ⟨Qv.rws _ _ hlh,by rw [zA];omega,?_⟩⟩)⟩⟩⟩);have Pn:=Qv.app (z:=2 * (ts.length:Int)) hlh;have k1:bC (x::lE::lS::as) H (upd H lh (.lst ((bQ ts h0 ts.length).map V.int++[V.int (2 * (ts.length:Int))]))):=bC.upd (.tail _ (.tail _ (.tail _ (zB hlh))));generalize upd H lh _=H1 at Pn k1 ⊢;refine (zr rfl ⟨x,_,dx,gJ rfl ⟨Pn.ins,T.Ag,T.cW,rfl,zr rfl ⟨lA,_,_,V.ref lt,rfl,rfl,aU.of Pn.mE,wV (by rw [zS,c8];rfl),.inl ⟨rfl,_,aU.of (Pn.rws _ _ c8)⟩,zr rfl (aT rfl rfl ⟨.inl ⟨by decide,by decide⟩,aT rfl rfl ⟨lt,aT rfl rfl ⟨Pn.rws _ _ c8,by rw [zA,zG];split <;> simp <;> omega,?_⟩⟩⟩)⟩⟩⟩);have vc:=Pn.app (z:=2 * (ts.length:Int) + 1) c8;have k2:bC (x::lE::lS::as) H1 (upd H1 lt (.lst ((bQ ts t0 ts.length++if h0=t0 then [2 * (ts.length:Int)] else []).map V.int++[V.int (2 * (ts.length:Int) + 1)]))):=bC.upd (.tail _ (.tail _ (.tail _ (zB c8))));generalize upd H1 lt _=H2 at vc k2 ⊢;have k2:=k1.trans k2;refine (zr rfl ⟨x,_,dx,gJ rfl ⟨vc.ins,T.Ag,T.cI,rfl,zr rfl (zr rfl ⟨by show 2<=_;omega,λb hb=>?_⟩)⟩⟩);have s3:aG H2 (upd H2 b (.lst [V.int (t0:Int),V.int (h0:Int)])):=xx hb;have b3:upd H2 b (.lst [V.int (t0:Int),V.int (h0:Int)]) b=some (.lst [V.int (t0:Int),V.int (h0:Int)]):=xq;generalize upd H2 b _=H3 at s3 b3 ⊢;have ZN:=vc.same s3;have k3:=k2.trans (aG.Nd s3);refine ⟨lE,b,aT rfl rfl ⟨ZN.ends,b3,by rw [zA,oW];show _ + 2<=_;omega,?_⟩⟩;have u9:=ZN.acn (es':=b9 ts++[(t0:Int),(h0:Int)]);have k4:bC (x::lE::lS::as) H3 (upd H3 lE (.lst ((b9 ts++[(t0:Int),(h0:Int)]).map V.int))):=bC.upd (.tail _ (.head _));have e4:HO.lst ((b9 ts).map V.int++[V.int (t0:Int),V.int (h0:Int)])=HO.lst ((b9 ts++[(t0:Int),(h0:Int)]).map V.int):=by rw [zE];rfl
  rw [e4];generalize upd H3 lE _=H4 at u9 k4 ⊢;have k4:=k3.trans k4;refine ⟨dx,_,u9.ins,by show 4 < 1000;decide,?_⟩;have gF:=u9.XF (src':=src);have k5:bC (x::lE::lS::as) H4 (upd H4 x (.ins a.Aa dx [("source", .int src),("arcs", .ref lA),("ends", .ref lE),("spare", .ref lS)])):=bC.upd (.head _);show jo _ _ _ _ (upd H4 x (.ins a.Aa dx [("source", .int src),("arcs", .ref lA),("ends", .ref lE),("spare", .ref lS)]));generalize upd H4 x _=H5 at gF k5 ⊢;have k5:=k4.trans k5;refine (zr rfl ⟨x,_,dx,gJ rfl ⟨gF.ins,T.Ag,T.bO,rfl,zr rfl ⟨by show 2<=_;omega,λc hc=>?_⟩⟩⟩);have s6:aG H5 (upd H5 c (.lst [V.int m0,V.int 0])):=xx hc;have b6:upd H5 c (.lst [V.int m0,V.int 0]) c=some (.lst [V.int m0,V.int 0]):=xq;generalize upd H5 c _=H6 at s6 b6 ⊢;have t6:=gF.same s6;have k6:=k5.trans (aG.Nd s6);have ls:=st.snd.len;refine ⟨lS,c,aT rfl rfl ⟨t6.i6,b6,by rw [zA,ls];show _ + 2<=_;omega,?_⟩⟩;have Qu:=t6.XG (dH:=sp++[m0,0]);have k7:bC (x::lE::lS::as) H6 (upd H6 lS (.lst ((sp++[m0,0]).map V.int))):=bC.upd (.tail _ (.tail _ (.head _)));have e7:HO.lst (sp.map V.int++[V.int m0,V.int 0])=HO.lst ((sp++[m0,0]).map V.int):=by rw [zE];rfl
  rw [e7];generalize upd H6 lS _=H7 at Qu k7 ⊢;have k7:=k6.trans k7;refine ⟨dx,_,Qu.ins,by show 4 < 1000;decide,?_⟩;have Pk:=Qu.XF (src':=src);have k8:bC (x::lE::lS::as) H7 (upd H7 x (.ins a.Aa dx [("source", .int src),("arcs", .ref lA),("ends", .ref lE),("spare", .ref lS)])):=bC.upd (.head _);refine (zr rfl ?_);refine q _ (k7.trans k8) ⟨?_,st.len,?_,st.snd.snoc (x:=⟨h0,t0,m0⟩) hm,st.sz.1,by rw [zG];show _ + 1<=_;omega⟩
  ·have ef:(λp=>(bQ ts p ts.length++if h0=p then [2 * (ts.length:Int)] else [])++if t0=p then [2 * (ts.length:Int) + 1] else [])=λp=>bQ (ts++[(⟨h0,t0,m0⟩:bY)]) p (ts++[(⟨h0,t0,m0⟩:bY)]).length:=by
    funext p;rw [O8,xD];rfl
   rw [<-ef,Nt];exact Pk
  ·intro t h;rcases zW.mp h with h | h
   ·exact st.UU t h
   ·rw [zJ.mp h];exact ⟨hh,ht⟩
theorem IF:aZ P w K mg base cB 1 a.AQ a.BR ["self", "tie"] (U5 a.Aa):=by
 refine T.AU.ok Fi (λvs H Q E h=>?_) (λbW A outer s H vs Q E hr h=>?_)
 ·obtain ⟨_,_,_,_,_,_,_,_,_,_,_,rfl,_⟩:=h;rfl
 ·have nd:=Fi.nd;have hu:=hr.units;obtain ⟨x,dx,lA,lE,lS,as,src,n,ts,sp,k,rfl,st,hk,q⟩:=h;refine ⟨_,(xw (wN (wL (wO (wS rfl) (jG rfl (pv 0) rfl) (wK wb (wK qI xy (pv 1)) xy) (λ_ _=>rfl))))),?_⟩;have line:8000<=sizeLine:=by rw [sizeLine_eq];decide
  have e1:(sp.map V.int)[2 * k + 1]?=some (V.int (bK sp (2 * k + 1))):=jc (jV (by rw [st.snd.len];omega));exact (zr rfl ⟨x,_,dx,gJ rfl ⟨st.raw.ins,T.Ag,T.bO,rfl,zr rfl (aT rfl rfl ⟨.inl ⟨by decide,by decide⟩,aT rfl rfl (fk st.raw.i6 (wV (j:=2 * k + 1) e1) q)⟩)⟩⟩)
theorem GL:aZ P w K mg base cB 1 a.Au a.AY ["self", "goal"] (Vd a.Aa):=by
 refine T.Av.ok Ed (λvs H Q E h=>?_) (λbW A outer s H vs Q E hr h=>?_)
 ·obtain ⟨_,_,_,_,_,_,_,_,_,_,_,rfl,_⟩:=h;rfl
 ·have nd:=Ed.nd;have hu:=hr.units;obtain ⟨x,dx,lA,lE,lS,as,src,n,ts,sp,g,rfl,st,hs,q⟩:=h;refine cz ?_;intro Y
  let B0:Bk Y (nb (nb (nb (aq wr) 3) 2) 1):=⟨_,(xw (wJ (PL (Nat.lt_of_le_of_lt (Nat.add_le_add_left (by decide) _) hu) (pv 2) (pv 7) (pv 6) rfl) (wN (wv (dI zj zd zf wt (pv 3) (xu (xv (pv 7) wH rfl)))))))⟩
  let B1:Bk Y ((nb (nb (aq wr) 3) 2).drop 1):=⟨_,(xw (wN (wa (PW.pt (eV (wM lK (wO (wS rfl) (jG rfl (pv 0) rfl) (pv 6) (λ_ _=>rfl)) xy (aM _)) (dB (wM (su hu) (pv 7) (pv 2) rfl)))) B0.ps wQ)))⟩
  let B2:Bk Y ((nb (aq wr) 3).drop 2):=⟨_,(xw (wN (qG PassesOwn.never rfl (wn rfl (wO (wS rfl) (eZ (pv 0) rfl) (pv 5) (λ_ _=>rfl))) (wE (i:=6) nd rfl rfl) (xw (wJ (wI (i:=7) nd rfl rfl (wO (wS rfl) (eZ (pv 0) rfl) (pv 6) (λ_ _=>rfl))) B1.bl)))))⟩
  let B3:Bk Y ((aq wr).drop 3):=⟨_,(xw (wJ (gP PassesOwn.never (PW.pt (eV (wM nV (pv 4) (wP (wR rfl) (by rfl) T.cH PySem.boot_len (xu (xv (pv 3) wH rfl))) (aM _)) (dB (wM (QH hu) (pv 1) (pv 2) rfl)))) (xw (wJ (wI (i:=5) nd rfl rfl (wO (wS rfl) (pv 3) (pv 4) (λ_ _=>rfl))) (wJ (SO (i:=4) nd rfl rfl xy uw) B2.bl)))) (wN (wL (pv 2)))))⟩
  refine ⟨_,(xw (wJ (wI (i:=2) nd rfl rfl (VA (SQ (eZ (pv 0) rfl) eY Vv) rfl rfl (by intro h;cases h) (by decide))) (wJ (wI (i:=3) nd rfl rfl (wc (xu (xv (eZ (pv 0) rfl) wH rfl)))) (wJ (wI (i:=4) nd rfl rfl xy) B3.bl)))),?_⟩;have line:8000<=sizeLine:=by rw [sizeLine_eq];decide
  have Qv:=st.raw;have n3:=st.sz.1;have t3:=st.sz.2;refine λd hd0=>?_;have s1:aG H (upd H d (.dK [])):=xx hd0;refine (zr rfl ⟨x,_,dx,gJ rfl ⟨s1 _ _ Qv.ins,T.Ag,T.cg,rfl,xq,[(Sum.inl (src:Int),V.bL)],rfl,by show 1<=15;decide,?_⟩⟩);have s2:aG H (upd (upd H d (.dK [])) d (.dK (cC [(src,none)]))):=aG.put hd0 s1;have d2:upd (upd H d (.dK [])) d (.dK (cC [(src,none)])) d=some (.dK (cC [(src,none)])):=xq;show dQ 2 (V.ref d) _ (upd (upd H d (.dK [])) d (.dK (cC [(src,none)]))) _;generalize upd (upd H d _) d _=H2 at s2 d2 ⊢;refine (zr rfl ⟨x,_,dx,gJ rfl ⟨s2 _ _ Qv.ins,T.Ag,T.cg,rfl,by show 1<=_;omega,λl hl=>?_⟩⟩);have c3:jZ H (upd H2 l (.lst [V.int (src:Int)])) d l ts sp n src [(src,none)]:=⟨s2.trans (xx hl),hd0,s2.free hl,wC d2 hl,(xx hl) _ _ d2,xq,R5 hs⟩;generalize upd H2 l _=H3 at c3 ⊢;refine ⟨λm σ H5=>∃ tree,∃ pl:Nat,∃ o1 o2 o3,σ=[some (.ref x),some (oV (g.map λz=>(z:Int))),some (.ref d),some (.ref l),some (.int (pl:Int)),o1,o2,o3]/\jZ H H5 d l ts sp n src tree/\pl<=tree.length/\(∀ (i p:Nat),i < pl->(cK tree)[i]?=some p->bX ts sp (cK tree) p)/\m=n - pl,⟨_,_,0,none,none,none,rfl,c3,za _,λi p h=>by omega,rfl⟩,?_⟩;rintro m σ H5 ⟨tree,pl,o1,o2,o3,rfl,c5,TJ,cl5,rfl⟩;have gF:=st.same c5.sm;have tl5:=c5.tk.len;have ag6:((cK tree).map λp:Nat=>V.int (p:Int)).length=tree.length:=by unfold cK;rw [zA,zA]
  refine (zr rfl (zr rfl ⟨l,zr rfl ⟨.inl (aU.of c5.hl),aT rfl rfl (zr rfl ?_)⟩⟩));by_cases c:pl < tree.length
  ·refine bP (decide_eq_true (by omega)) (zr rfl (zr rfl ⟨d,_,(g.map λz=>(z:Int)),rfl,c5.hd,rfl,zr rfl ?_⟩));refine Tu (λ_=>?_) λhb=>?_
   ·obtain ⟨p,hp⟩:∃ p,(cK tree)[pl]?=some p:=⟨_,zO (by unfold cK;rw [zA];exact c)⟩;have pn:p < n:=by obtain ⟨y,hy,rfl⟩:=zK.mp (zB hp);exact c5.tk.ins y hy
    obtain ⟨lp,hlp⟩:∃ r,as[p]?=some r:=⟨_,zO (by rw [st.len];exact pn)⟩;have pm:=zB hp;refine ⟨fun σ H5=>∃ tree,∃ o1 o2 o3,σ=[some (.ref x),some (oV (g.map λz=>(z:Int))),some (.ref d),some (.ref l),some (.int ((pl:Int) + 1)),o1,o2,o3]/\jZ H H5 d l ts sp n src tree/\pl + 1<=tree.length/\(∀ (i p:Nat),i < pl + 1->(cK tree)[i]?=some p->bX ts sp (cK tree) p),?_,?_⟩
    ·rintro σ H6 ⟨ck,p1,p2,p3,rfl,c6,h6,YV⟩;exact ⟨n - (pl + 1),by omega,ck,pl + 1,p1,p2,p3,rfl,c6,h6,YV,rfl⟩
    refine (zr rfl (zr rfl (fk c5.hl (wV (by rw [zS,hp];rfl)) (zr rfl (aT rfl rfl ?_)))));refine (zr rfl ⟨x,_,dx,gJ rfl ⟨gF.raw.ins,T.Ag,T.cW,rfl,zr rfl ⟨lA,_,_,V.ref lp,rfl,rfl,aU.of gF.raw.mE,wV (by rw [zS,hlp];rfl),lp,rfl,⟨_,aU.of (gF.raw.rws _ _ hlp)⟩,?_⟩⟩⟩);refine (let W12:IV:=λi σ H6=>∃ ck,∃ o2 o3,σ=[some (.ref x),some (oV (g.map λz=>(z:Int))),some (.ref d),some (.ref l),some (.int ((pl:Int) + 1)),some (.int (p:Int)),o2,o3]/\jZ H H6 d l ts sp n src ck/\(∃ more,cK ck=cK tree++more)/\∀ (j b:Nat),j < i->(bQ ts p ts.length)[j]?=some (b:Int)->0 < bK sp b->hd ts b∈cK ck;qM (K:=K) (a:=lp) (xs:=(bQ ts p ts.length).map V.int) W12 ⟨tree,gJ rfl ⟨c5,⟨[],by rw [zy]⟩,λj b h=>by omega⟩⟩ ?_ ?_ ?_)
    ·rintro i σ H6 _ ⟨ck,o2,o3,rfl,c6,_,_⟩;exact aU.of ((st.same c6.sm).raw.rws _ _ hlp)
    ·rintro i z σ H6 hz ⟨ck,o2,o3,rfl,c6,⟨more,em⟩,YV⟩;obtain ⟨y,hy,rfl⟩:=wY hz;obtain ⟨b,rfl,hb,tb⟩:=(jg (zD _)).mp (zB hy);have t6:=(st.same c6.sm).raw;have tl6:=c6.tk.len;have VG:∀ {nj H7 o2 o3},jZ H H7 d l ts sp n src nj->(∃ m,cK nj=cK ck++m)->(0 < bK sp b->hd ts b∈cK nj)->∃ R6,∃ o2' o3',[some (.ref x),some (oV (g.map λz=>(z:Int))),some (.ref d),some (.ref l),some (.int ((pl:Int) + 1)),some (.int (p:Int)),o2,o3]=[some (.ref x),some (oV (g.map λz=>(z:Int))),some (.ref d),some (.ref l),some (.int ((pl:Int) + 1)),some (.int (p:Int)),o2',o3']/\jZ H H7 d l ts sp n src R6/\(∃ more,cK R6=cK tree++more)/\∀ (j b:Nat),j < i + 1->(bQ ts p ts.length)[j]?=some (b:Int)->0 < bK sp b->hd ts b∈cK R6:=by
      rintro nj H7 o2 o3 c7 ⟨m7,e7⟩ h7;refine ⟨nj,o2,o3,rfl,c7,⟨more++m7,by rw [e7,em,xD]⟩,λj b2 hj lP h0=>?_⟩;by_cases cj:j < i
      ·rw [e7];exact z4 _ (YV j b2 cj lP h0)
      ·obtain rfl:j=i:=by omega
       rw [hy] at lP;obtain rfl:b=b2:=Int.ofNat.inj (Option.some.inj lP);exact h7 h0
     refine (zr rfl ⟨x,_,dx,gJ rfl ⟨t6.ins,T.Ag,T.cI,rfl,zr rfl (fk t6.ends (wV (jc (oX hb))) ?_)⟩⟩);refine (zr rfl ⟨x,_,dx,gJ rfl ⟨t6.ins,T.Ag,T.bO,rfl,zr rfl (fk t6.i6 (wV (jc (jV (by rw [st.snd.len];exact hb)))) (aT rfl rfl (zr rfl ?_)))⟩⟩);by_cases c1:0 < bK sp b
     ·have eg:=iK.k (k:=Sum.inl ((hd ts b:Nat):Int)) c6.hd;refine bP (decide_eq_true c1) (zr rfl (zr rfl ⟨d,zr rfl ⟨eg,zr rfl ?_⟩⟩));rw [kr c6.tk.nd];by_cases c2:hd ts b∈cK ck
      ·exact aQ (by rw [decide_eq_true c2];rfl) (VG c6 ⟨[],by rw [zy]⟩ λ_=>c2)
      ·refine bP (by rw [decide_eq_false c2];rfl) ?_;have pt6:tl ts b∈cK ck:=by rw [tb,em];exact z4 _ pm
       have tk7:=c6.tk.snoc hb c2 (aaI st.UU hb) rfl c1 pt6;refine (zr rfl (zr rfl (zr rfl ⟨d,zr rfl ⟨RG.k (k:=Sum.inl ((hd ts b:Nat):Int)) c6.hd (by unfold cC;rw [zA];omega),?_⟩⟩)));rw [R4 c2];have hl7:upd H6 d (.dK (cC (ck++[(hd ts b,some b)]))) l=some (.lst ((cK ck).map λp:Nat=>V.int (p:Int))):=by rw [wF (Ne.symm c6.ne)];exact c6.hl
       refine (zr rfl ⟨.inl ⟨rfl,_,aU.of hl7⟩,zr rfl ⟨l,aT rfl rfl ⟨hl7,by unfold cK;rw [zA,zA];omega,?_⟩⟩⟩);exact VG (c6.add tk7) ⟨[hd ts b],jD⟩ λ_=>by rw [jD];exact zQ _ (.head _)
     ·exact aQ (decide_eq_false c1) (aQ rfl (VG c6 ⟨[],by rw [zy]⟩ λh=>absurd h c1))
    ·rintro σ H6 ⟨ck,o2,o3,rfl,c6,⟨more,em⟩,YV⟩;have l6:ck.length=(cK ck).length:=(zA ..).symm;have l5:tree.length=(cK tree).length:=(zA ..).symm;refine ⟨ck,_,gJ rfl ⟨c6,by rw [l6,em,zG,<- l5];omega,λi p2 hi Zi=>?_⟩⟩;rw [em,zX (by omega)] at Zi;by_cases ci:i < pl
     ·exact (cl5 i p2 ci Zi).more λz hz=>by rw [em];exact z4 _ hz
     ·obtain rfl:i=pl:=by omega
      obtain rfl:p=p2:=by rw [hp] at Zi;exact Option.some.inj Zi
      intro b hb tb h0;obtain ⟨j,hj⟩:=z6 ((jg (z:=(b:Int)) (zD _)).mpr ⟨b,rfl,hb,tb⟩);exact YV j b (by rw [zA];exact (zC.mp hj).1) hj h0
   ·refine (zr rfl (q d tree H5 c5.sm c5.fd c5.hd c5.tk λh2=>?_));cases g with
    | none=>cases hb
    | some z=>
     have hb:(!(cO (cC tree) (Sum.inl (z:Int))).isSome)=false:=hb;rw [kr c5.tk.nd,decide_eq_false (h2 z rfl)] at hb;cases hb
  ·refine aQ (decide_eq_false (by omega)) (zr rfl (q d tree H5 c5.sm c5.fd c5.hd c5.tk λ_ p hp=>?_));obtain ⟨i,hi⟩:=z6 hp;have:=(zC.mp hi).1;have lp:(cK tree).length=tree.length:=zA ..;exact cl5 i p (by omega) hi
theorem Fs:aZ P w K mg base cB 1 a.Al a.Ax ["self", "came", "goal"] (Sv a.Aa):=by
 refine T.Am.ok DE (λvs H Q E h=>?_) (λbW A outer s H vs Q E hr h=>?_)
 ·obtain ⟨_,_,_,_,_,_,_,_,_,_,_,_,_,rfl,_⟩:=h;rfl
 ·have nd:=DE.nd;have hu:=hr.units;obtain ⟨x,dx,lA,lE,lS,as,src,n,ts,sp,d,tree,g,rfl,st,hd0,tk,hg,ng,q⟩:=h;refine ⟨_,(xw (wJ (wI (i:=3) nd rfl rfl (wc qP)) (wJ (wI (i:=4) nd rfl rfl (pv 2)) (wJ (gP PassesOwn.never (wM lJ (pv 4) (eZ (pv 0) rfl) (aM _)) (xw (wJ (wI (i:=5) nd rfl rfl (PR (Nat.lt_of_le_of_lt (Nat.add_le_add_left (by decide) _) hu) (pv 1) (pv 4) (λ_ _=>rfl))) (wJ (wv (dI zj zd zf wt (pv 3) (xu (xv (pv 5) wH rfl)))) (wN (wI (i:=4) nd rfl rfl (wO (wS rfl) (eZ (pv 0) rfl) (wK OG (pv 5) xy) (λ_ _=>rfl)))))))) (wJ (wI (i:=6) nd rfl rfl (wP (Rx rfl) (by rfl) T.pK ya (xu (xv (qQ (own:=["arc"]) (caps:=[0]) rfl (show aV ["arc"] [0] ["self", "came", "goal", "way", "point", "arc", "most"] (aB qL) _ from L2.gU) (wn rfl (pv 3)) (λ_ _ _ _=>(wE (i:=0) (show List.Nodup (["arc", "self"]:List Str) from by decide +kernel) rfl rfl)) (λ_ _ _ _=>qU) (λ_ _ _ _=>(wO (wS rfl) (jG rfl (pv 1) rfl) (pv 0) (λ_ _=>rfl)))) wH rfl)))) (wJ (qG PassesOwn.never rfl (wn rfl (pv 3)) (wE (i:=5) nd rfl rfl) (xw (wJ (ug (jG rfl (pv 0) rfl) (pv 5) (oO rfl) (pv 6) Yn qq) (wN (ug (jG rfl (pv 0) rfl) (wK OG (pv 5) xy) (oO rfl) (pv 6) uw qq))))) (wN (wL (pv 6))))))))),?_⟩;have line:8000<=sizeLine:=by rw [sizeLine_eq];decide
  have n3:=st.sz.1;have t3:=st.sz.2;have af9:=tk.len;obtain ⟨yg,hyg,rfl⟩:=zK.mp hg;obtain ⟨ig,hig⟩:=z6 hyg;have ilt:=(zC.mp hig).1;refine ⟨by show 0<=_;omega,λl hl=>?_⟩;have s1:aG H (upd H l (.lst (([]:List Nat).map λa:Nat=>V.int (a:Int)))):=xx hl;have l1:upd H l (.lst (([]:List Nat).map λa:Nat=>V.int (a:Int))) l=some (.lst (([]:List Nat).map λa:Nat=>V.int (a:Int))):=xq;show dQ 3 (V.ref l) _ (upd H l (.lst (([]:List Nat).map λa:Nat=>V.int (a:Int)))) _;generalize upd H l _=H1 at s1 l1 ⊢;refine (zr rfl ?_);refine ⟨λm σ H5=>∃ (w0:List Nat) (c i:Nat) (o:Option Nat) (o1:Option V),σ=[some (.ref x),some (.ref d),some (.int (yg.1:Int)),some (.ref l),some (.int (c:Int)),o1,none]/\aG H H5/\H5 l=some (.lst (w0.map λa:Nat=>V.int (a:Int)))/\iW ts yg.1 w0 c/\tree[i]?=some (c,o)/\(∀ a∈w0,a < 2 * ts.length/\0 < bK sp a/\∃ j y,i < j/\tree[j]?=some (y,some a))/\w0.Nodup/\w0.length + i < tree.length/\m=i,⟨_,[],yg.1,ig,yg.2,none,rfl,s1,l1,.nil,hig,(λ_ h=>by cases h),.nil,by show 0 + ig < _;omega,rfl⟩,?_⟩;rintro i σ H5 ⟨w0,c,i9,o,o1,rfl,s5,l5,bw,hi,hw,nd0,wl,rfl⟩;have gF:=(st.same s5).raw;refine (zr rfl (zr rfl ⟨x,_,dx,gJ rfl ⟨gF.ins,T.Ag,T.cg,rfl,rfl,zr rfl ?_⟩⟩));refine Tu (λhc=>?_) λhc=>?_
  ·have hc:c≠src:=λe=>by subst e;rw [decide_eq_true rfl] at hc;cases hc
   have i0:0 < i:=by
    rcases Nat.eq_zero_or_pos i with z | z
    ·subst z;rw [tk.root] at hi;cases hi;exact absurd rfl hc
    ·exact z
   obtain ⟨b,e1,hb,e2,b0,j,y,hj,hjy,ey⟩:=tk.arc i _ hi i0;have e1:o=some b:=e1;subst e1;have e2:hd ts b=c:=e2;have eg:iK H5 d (V.int (c:Int)) (some (V.int (b:Int))):=by
    have:=iK.k (k:=Sum.inl (c:Int)) (s5 _ _ hd0);rw [nh tk.nd hi] at this;exact this
   have nb:b ∉ w0:=λh=>by
    obtain ⟨_,_,j2,y2,hj2,hy2⟩:=hw b h;obtain ⟨b2,f1,_,f2,_⟩:=tk.arc j2 _ hy2 (by omega);have f1:some b=some b2:=f1;cases f1;have f2:hd ts b=y2:=f2;have:=vQ tk.nd (i:=i) (j:=j2) (a:=c) (by unfold cK;rw [zS,hi];rfl) (by unfold cK;rw [zS,hy2];show some y2=_;rw [<-f2,e2]);omega
   refine ⟨fun σ H6=>∃ (w0:List Nat) (c j:Nat) (o:Option Nat) (o1:Option V),σ=[some (.ref x),some (.ref d),some (.int (yg.1:Int)),some (.ref l),some (.int (c:Int)),o1,none]/\aG H H6/\H6 l=some (.lst (w0.map λa:Nat=>V.int (a:Int)))/\iW ts yg.1 w0 c/\tree[j]?=some (c,o)/\(∀ a∈w0,a < 2 * ts.length/\0 < bK sp a/\∃ j' y,j < j'/\tree[j']?=some (y,some a))/\w0.Nodup/\w0.length + j < tree.length/\j < i,?_,?_⟩
   ·rintro σ H6 ⟨w6,c6,j6,o6,p6,rfl,h1,h2,h3,h4,h5,h6,h7,h8⟩;exact ⟨j6,h8,w6,c6,j6,o6,p6,rfl,h1,h2,h3,h4,h5,h6,h7,rfl⟩
   refine (zr rfl (zr rfl ⟨d,zr rfl ⟨eg,?_⟩⟩));refine (zr rfl ⟨.inl ⟨rfl,_,aU.of l5⟩,zr rfl ⟨l,aT rfl rfl ⟨l5,by rw [zA];omega,?_⟩⟩⟩);have s6:aG H (upd H5 l (.lst ((w0.map λa:Nat=>V.int (a:Int))++[V.int (b:Int)]))):=aG.put hl s5;have l6:upd H5 l (.lst ((w0.map λa:Nat=>V.int (a:Int))++[V.int (b:Int)])) l=some (.lst ((w0++[b]).map λa:Nat=>V.int (a:Int))):=by rw [xq,zE];rfl
   generalize upd H5 l _=H6 at s6 l6 ⊢;have t6:=(st.same s6).raw;refine (zr rfl ⟨x,_,dx,gJ rfl ⟨t6.ins,T.Ag,T.cI,rfl,zr rfl (aT rfl rfl ⟨lE,_,_,V.int ((tl ts b:Nat):Int),rfl,rfl,aU.of t6.ends,by rw [tH];exact wV (jc (oX (mP hb))),?_⟩)⟩⟩);refine ⟨w0++[b],tl ts b,j,y.2,zr rfl ⟨s6,l6,.snoc (by rw [e2];exact bw),by rw [<-ey];exact hjy,λz hz=>?_,?_,by rw [zG];show _ + 1 + j < _;omega,hj⟩⟩
   ·rcases zW.mp hz with h | h
    ·obtain ⟨h1,h2,j',y',h3,h4⟩:=hw z h;exact ⟨h1,h2,j',y',by omega,h4⟩
    ·rw [zJ.mp h];exact ⟨hb,b0,i,c,hj,hi⟩
   ·exact List.nodup_append.mpr ⟨nd0,zw.mpr ⟨by simp,.nil⟩,λz hz c hc=>by rw [zJ.mp hc];exact λe=>nb (e ▸ hz)⟩
  ·have hc:c=src:=by
    by_cases e:c=src
    ·exact e
    ·exfalso;rw [decide_eq_false (λz=>e (by injection z with z;exact Int.ofNat.inj z))] at hc;cases hc
   subst hc;have w1:0 < w0.length:=bw.pos ng;refine (zr rfl ⟨l,rfl,⟨_,aU.of l5⟩,?_⟩);refine O2 (K:=K) (a:=l) (xs:=w0.map λa:Nat=>V.int (a:Int)) (λi τ acc H6=>(∃ t0,τ=[t0,some (.ref x)])/\acc=((w0.take i).map λa=>V.int (bK sp a))/\H6=H5) ⟨⟨_,rfl⟩,rfl,rfl⟩ (by rw [zA];omega) ?_ ?_ ?_
   ·rintro i τ acc H6 ⟨_,rfl,rfl⟩;exact ⟨by rw [zA,zV];omega,aU.of l5⟩
   ·rintro i z τ acc H6 C hz ⟨⟨t0,rfl⟩,rfl,rfl⟩ hC;obtain ⟨b,hb,rfl⟩:=wY hz;have lP:=hw b (zB hb);refine (zr rfl ⟨x,_,dx,gJ rfl ⟨gF.ins,T.Ag,T.bO,rfl,zr rfl (fk gF.i6 (wV (jc (jV (by rw [st.snd.len];exact lP.1)))) ?_)⟩⟩);exact hC _ _ _ ⟨⟨_,rfl⟩,by rw [xX,hb,zE];rfl,rfl⟩
   ·rintro τ acc H6 ⟨_,rfl,rfl⟩ lm hm;have eL:((w0.take (w0.map λa:Nat=>V.int (a:Int)).length).map λa=>V.int (bK sp a))=List.map V.int (w0.map (bK sp)):=by rw [zA,zq,zo];rfl
    rw [eL];have s6:=s5.trans (xx (o:=HO.lst (List.map V.int (w0.map (bK sp)))) hm);have l6:=(xx (o:=HO.lst (List.map V.int (w0.map (bK sp)))) hm) _ _ l5;refine ⟨lm,zr rfl ⟨aU.of xq,by rw [zA];exact w1,λM hM hle=>?_⟩⟩;generalize upd H6 lm _=H7 at s6 l6 ⊢;obtain ⟨bM,hbM,rfl⟩:=zK.mp hM;have M0:=(hw bM hbM).2.1;have wle:∀ z∈w0,z < 2 * ts.length/\bK sp bM<=bK sp z:=λz hz=>⟨(hw z hz).1,hle _ (zK.mpr ⟨z,hz,rfl⟩)⟩;refine (zr rfl ⟨l,rfl,⟨_,aU.of l6⟩,?_⟩);refine qM (K:=K) (a:=l) (xs:=w0.map λa:Nat=>V.int (a:Int)) (λi σ H8=>(∃ o5,σ=[some (.ref x),some (.ref d),some (.int (yg.1:Int)),some (.ref l),some (.int (c:Int)),o5,some (.int (bK sp bM))])/\bC [lS] H H8/\H8 l=some (.lst (w0.map λa:Nat=>V.int (a:Int)))/\fh a.Aa H8 x dx lA lE lS as (c:Int) (λp=>bQ ts p ts.length) (b9 ts) (bu sp (w0.take i) (bK sp bM))) ⟨⟨_,rfl⟩,aG.Nd s6,l6,(st.same s6).raw⟩ ?_ ?_ ?_
    ·rintro i σ H8 _ ⟨_,_,l8,_⟩;exact aU.of l8
    ·rintro i z σ H8 hz ⟨⟨o5,rfl⟩,k8,l8,Pk⟩;obtain ⟨b,hb,rfl⟩:=wY hz;have lP:=(hw b (zB hb)).1;have hl8:(bu sp (w0.take i) (bK sp bM)).length=2 * ts.length:=by rw [g7];exact st.snd.len
     have lne:l≠lS:=Ne.symm (wC st.raw.i6 hl);have eT:w0.take (i + 1)=w0.take i++[b]:=by rw [xX,hb];rfl
     have eB:bu sp (w0.take (i + 1)) (bK sp bM)=bump (bu sp (w0.take i) (bK sp bM)) b (bK sp bM):=by rw [eT,jU]
     rw [eB];generalize bu sp (w0.take i) (bK sp bM)=sq at Pk hl8 ⊢;refine (zr rfl ⟨x,_,dx,gJ rfl ⟨Pk.ins,T.Ag,T.bO,rfl,zr rfl ⟨lS,_,_,b,rfl,rfl,aU.of Pk.i6,jc (jV (by rw [hl8];exact lP)),zr rfl (aT rfl rfl ⟨lS,_,aT rfl rfl ⟨Pk.i6,eG (by rw [zA,hl8];exact lP),?_⟩⟩)⟩⟩⟩);rw [vZ];have Zb:=Pk.XG (dH:=sq.set b (bK sq b - bK sp bM));have k9:bC [lS] H8 (upd H8 lS (.lst ((sq.set b (bK sq b - bK sp bM)).map V.int))):=bC.upd (.head _);have l9:upd H8 lS (.lst ((sq.set b (bK sq b - bK sp bM)).map V.int)) l=some (.lst (w0.map λa:Nat=>V.int (a:Int))):=by rw [wF lne];exact l8
     generalize upd H8 lS _=H9 at Zb k9 l9 ⊢;have TN:(sq.set b (bK sq b - bK sp bM)).length=2 * ts.length:=by rw [xj];exact hl8
     unfold bump;generalize sq.set b (bK sq b - bK sp bM)=sr at Zb TN ⊢;refine (zr rfl ⟨x,_,dx,gJ rfl ⟨Zb.ins,T.Ag,T.bO,rfl,zr rfl (aT rfl rfl ⟨lS,_,_,flip b,rfl,congrArg V.int (tH b),aU.of Zb.i6,jc (jV (by rw [TN];exact mP lP)),zr rfl (aT rfl rfl ⟨lS,_,_,flip b,rfl,rfl,Zb.i6,by rw [tH];exact eG (by rw [zA,TN];exact mP lP),?_⟩)⟩)⟩⟩);rw [vZ];exact ⟨⟨_,rfl⟩,(k8.trans k9).trans (bC.upd (.head _)),by rw [wF lne];exact l9,Zb.XG⟩
    ·rintro σ H8 ⟨⟨o5,rfl⟩,k8,l8,Pk⟩;rw [zA,zq] at Pk;exact (zr rfl (q _ w0 _ M0 bw wle nd0 k8 ⟨Pk,st.len,st.UU,st.snd.way (Int.le_of_lt M0) wle nd0,st.sz⟩))
theorem IG:aZ P w K mg base cB 2 a.AR a.BS ["self", "source", "goal"] (U6 a.Aa):=by
 have EC:=GL P w base T B;have FU:=Fs P w base T B;refine T.AV.ok Fj (λvs H Q E h=>?_) (λbW A outer s H vs Q E hr h=>?_)
 ·obtain ⟨_,_,_,_,_,_,_,_,_,_,_,_,rfl,_⟩:=h;rfl
 ·have nd:=Fj.nd;have hu:=hr.units;obtain ⟨x,dx,lA,lE,lS,as,ZO,n,ts,sp,s0,g,rfl,st,hs,hg,ne,q⟩:=h;refine cz ?_;intro Y
  let B0:Bk Y (nb (aq qj) 3):=⟨_,(xw (wJ (SO (i:=3) nd rfl rfl (fT (pv 0) T.Ag T.FS FU (hr.mono (by decide)) T.FP .nil aC (xu (xv (pv 4) (xv (pv 2) wH rfl) rfl))) uw) (wN (wI (i:=4) nd rfl rfl (fT (pv 0) T.Ag T.Ez EC (hr.mono (by decide)) T.Ev .nil aC (xu (xv (pv 2) wH rfl)))))))⟩
  let B1:Bk Y ((aq qj).drop 2):=⟨_,(xw (wJ (wI (i:=4) nd rfl rfl (fT (pv 0) T.Ag T.Ez EC (hr.mono (by decide)) T.Ev .nil aC (xu (xv (pv 2) wH rfl)))) (wJ (gP PassesOwn.never (wM (XW hu) (pv 2) (pv 4) rfl) B0.ps) (wN (wL (pv 3))))))⟩
  refine ⟨_,(xw (wJ (nP (pv 0) (pv 1) rfl) (wJ (wI (i:=3) nd rfl rfl xy) B1.bl))),?_⟩;have line:8000<=sizeLine:=by rw [sizeLine_eq];decide
  have Qv:=st.raw;refine (zr rfl (zr rfl ⟨x,_,dx,zr rfl ⟨Qv.ins,T.Ag,T.cg,by show 4 < 1000;decide,?_⟩⟩));have Pn:=Qv.XF (src':=(s0:Int));have k1:bC [x,lS] H (upd H x (.ins a.Aa dx [("source", .int (s0:Int)),("arcs", .ref lA),("ends", .ref lE),("spare", .ref lS)])):=bC.upd (.head _);show jo _ _ _ _ (upd H x (.ins a.Aa dx [("source", .int (s0:Int)),("arcs", .ref lA),("ends", .ref lE),("spare", .ref lS)]));generalize upd H x _=H1 at Pn k1 ⊢;have vc:mG a.Aa H1 x dx lA lE lS as (s0:Int) n ts sp:=⟨Pn,st.len,st.UU,st.snd,st.sz⟩;refine (zr rfl ⟨x,dx,zr rfl ⟨Pn.ins,rfl,zr rfl ⟨x,dx,lA,lE,lS,as,s0,n,ts,sp,some g,rfl,vc,hs,λd tree H2 s2 fd h2 tk cl=>?_⟩⟩⟩);refine ⟨λm σ H5=>∃ tot dH d tree,σ=[some (.ref x),some (.int (s0:Int)),some (.int (g:Int)),some (.int tot),some (.ref d)]/\0<=tot/\bC [x,lS] H H5/\mG a.Aa H5 x dx lA lE lS as (s0:Int) n ts dH/\H5 d=some (.dK (cC tree))/\cD ts dH n s0 tree/\(g ∉ cK tree->∀ p∈cK tree,bX ts dH (cK tree) p)/\(∀ p,fj ts dH p ts.length=fj ts sp p ts.length + tot * ((if g=p then 1 else 0) - (if s0=p then 1 else 0)))/\m=(Zt ts ts.length - fj ts dH g ts.length).toNat,⟨_,0,sp,d,tree,rfl,zb _,k1.trans (aG.Nd s2),vc.same s2,h2,tk,λh=>cl λz e=>by cases e;exact h,λp=>by rw [Int.zero_mul,Int.add_zero],rfl⟩,?_⟩;rintro m σ H5 ⟨tot,dH,d5,R7,rfl,t0,k5,gF,h5,tk5,cl5,nt5,rfl⟩;have eg:=iK.k (k:=Sum.inl (g:Int)) h5;refine (zr rfl (zr rfl ⟨d5,zr rfl ⟨eg,zr rfl ?_⟩⟩));rw [kr tk5.nd];by_cases c:g∈cK R7
  ·refine bP (decide_eq_true c) ⟨fun σ H6=>∃ m6 w6 d6 ck,σ=[some (.ref x),some (.int (s0:Int)),some (.int (g:Int)),some (.int (tot + m6)),some (.ref d6)]/\0 < m6/\iW ts g w6 s0/\(∀ a∈w6,a < 2 * ts.length/\m6<=bK dH a)/\w6.Nodup/\bC [x,lS] H H6/\mG a.Aa H6 x dx lA lE lS as (s0:Int) n ts (bu dH w6 m6)/\H6 d6=some (.dK (cC ck))/\cD ts (bu dH w6 m6) n s0 ck/\(g ∉ cK ck->∀ p∈cK ck,bX ts (bu dH w6 m6) (cK ck) p),?_,?_⟩
   ·rintro σ H6 ⟨m6,w6,d6,ck,rfl,m0,bw,hw,nd,k6,t6,h6,tk6,YV⟩;have nt6:∀ p,fj ts (bu dH w6 m6) p ts.length=fj ts sp p ts.length + (tot + m6) * ((if g=p then 1 else 0) - (if s0=p then 1 else 0)):=λp=>by
     rw [PZ gF.snd.len bw λa h=>(hw a h).1,nt5 p,Int.add_mul];omega
    have e6:fj ts (bu dH w6 m6) g ts.length=fj ts dH g ts.length + m6:=by
     rw [PZ gF.snd.len bw λa h=>(hw a h).1,if_pos rfl,if_neg ne];omega
    have cp:=P4 t6.snd g _ (zD _);exact ⟨_,by rw [e6] at cp ⊢;omega,tot + m6,_,d6,ck,rfl,by omega,k6,t6,h6,tk6,YV,nt6,rfl⟩
   ·refine (zr rfl (zr rfl ⟨x,dx,zr rfl ⟨gF.raw.ins,rfl,zr rfl (zr rfl ⟨x,dx,lA,lE,lS,as,s0,n,ts,dH,d5,R7,g,rfl,gF,h5,tk5,c,Ne.symm ne,λm6 w6 H6 m0 bw hw nd k6 t6=>?_⟩)⟩⟩));refine (aT rfl rfl (zr rfl ⟨x,dx,zr rfl ⟨t6.raw.ins,rfl,zr rfl ⟨x,dx,lA,lE,lS,as,s0,n,ts,_,some g,rfl,t6,hs,λd7 nj H7 s7 fd7 h7 tk7 cl7=>?_⟩⟩⟩));exact ⟨m6,w6,d7,nj,rfl,m0,bw,hw,nd,k5.trans ((k6.sub λz h=>by rw [zJ.mp h];exact .tail _ (.head _)).trans (aG.Nd s7)),t6.same s7,h7,tk7,λh=>cl7 λz e=>by cases e;exact h⟩
  ·refine aQ (decide_eq_false c) (zr rfl (q tot dH R7 _ k5 gF t0 nt5 tk5 c (cl5 c)))
theorem MI:aZ P w K mg base cB 1 a.AT a.BT ["self"] (Pu):=⟨λ_ _ _ _ h=>h.elim,λ_ _ _ _ _ _ _ _ _ _ _ _ _ h=>h.elim⟩
theorem GJ:aZ P w K mg base cB 4 a.By a.CZ ["book", "thing"] (Ol):=by
 have Km:=LQ P w base T B;have Ic:=Ko P w base T B;refine T.Cl.ok GB (λvs H Q E h=>?_) (λbW A outer s H vs Q E hr h=>?_)
 ·obtain ⟨b,x,r,_,_,_,_,rfl,_⟩:=h;rfl
 ·have nd:=GB.nd;have hu:=hr.units;obtain ⟨b,x,r,aa,tr,tm,ps,rfl,hb,th,q⟩:=h;refine cz ?_;intro Y
  let B0:Bk Y ((aq DG).drop 2):=⟨_,(xw (wN (wL (dJ (wG Ic (hr.mono (by decide)) rfl T.HL T.HR T.HX .nil aC (xu (xv (pv 0) (xv (pv 2) wH rfl) rfl))) (dJ (wG Km (hr.mono (by decide)) rfl T.Kg T.Ki T.Kk .nil aC (xu (xv (pv 3) wH rfl))) (dJ (wG Ic (hr.mono (by decide)) rfl T.HL T.HR T.HX .nil aC (xu (xv (pv 0) (xv (pv 4) wH rfl) rfl))) (fS (wG Km (hr.mono (by decide)) rfl T.Kg T.Ki T.Kk .nil aC (xu (xv (pv 5) wH rfl))))))))))⟩
  let B1:Bk Y ((aq DG).drop 1):=⟨_,(xw (wJ (wu (pv 1) (wX (n:=4) rfl rfl (wD (wE (i:=2) nd rfl rfl) (wD (wE (i:=3) nd rfl rfl) (wD (wE (i:=4) nd rfl rfl) (wD (wE (i:=5) nd rfl rfl) wW)))))) B0.bl))⟩
  refine ⟨_,(xw (wJ (wa (PW.pt (iQ (qV (qF (wP (qm) (by rfl) T.cE yL (xu (xv (pv 1) (xv (iy (v:=V.ty "tuple") rfl T.eK yJ rfl) wH rfl) rfl))))) (eU (wM lJ (wP (wR rfl) (by rfl) T.cH PySem.boot_len (xu (xv (pv 1) wH rfl))) xy (aM _))))) (xw (wN (wL fH))) wQ) B1.bl)),?_⟩;rcases th with ⟨t,ht,nt,rfl⟩ | ⟨l,xs,rfl,hl,hx,rfl⟩
  ·refine (zr rfl ⟨x,t, "tuple", rfl,ht,.inr (.inr (.inr rfl)),zr rfl ?_⟩);refine bP ?_ (bP rfl q);rcases tL ht with rfl | rfl | rfl | rfl | rfl | rfl | rfl <;> first | rfl | exact absurd rfl nt
  ·refine (zr rfl ⟨_, "tuple", "tuple", rfl,Pd hl,.inr (.inr (.inr rfl)),zr rfl (aQ rfl ?_)⟩);refine (zr rfl ⟨l,zr rfl ⟨.inr (bS.of hl),rfl,zr rfl ?_⟩⟩);by_cases h4:xs.length=4
   ·obtain ⟨x0,x1,x2,x3,rfl⟩:=pZe h4;obtain ⟨t0,h0⟩:=hx x0 (by simp);obtain ⟨t1,h1⟩:=hx x1 (by simp);obtain ⟨t2,h2⟩:=hx x2 (by simp);obtain ⟨t3,h3⟩:=hx x3 (by simp);refine aQ (by simp) ?_;refine (zr rfl (pS hl ?_));have q:Q (.bl (j3 0 ((aa.length:Int) - 1) x0 && (j3 0 1000000000 x1 && (j3 0 ((aa.length:Int) - 1) x2 && j3 0 1000000000 x3)))) H:=q;refine (zr rfl (zr rfl (OY b x0 t0 aa tr tm ps ⟨rfl,hb,h0,zr rfl (kP (λc0=>?_) (λc0=>by rw [c0] at q;exact q))⟩)));refine (zr rfl ⟨x1,t1,rfl,h1,zr rfl (kP (λc1=>?_) (λc1=>by rw [c0,c1] at q;exact q))⟩);refine (zr rfl (zr rfl (OY b x2 t2 aa tr tm ps ⟨rfl,hb,h2,zr rfl (kP (λc2=>?_) (λc2=>by rw [c0,c1,c2] at q;exact q))⟩)));refine (zr rfl ⟨x3,t3,rfl,h3,?_⟩);rw [c0,c1,c2] at q;exact q
   ·refine bP ?_ ?_
    ·have:¬ V.int (xs.length:Int)=V.int 4:=λz=>h4 (by have:=V.int.inj z;omega);simp [this]
    ·have:isLet (aa.length:Int) (some xs)=false:=by
      unfold isLet;split
      ·rename_i e;cases e;simp at h4
      ·rfl
     rw [this] at q;exact q
theorem Eu:aZ P w K mg base cB 2 a.Ay a.A3 ["book", "sender", "since"] (So):=by
 have Gv:=HH P w base T B;have EY:=GH P w base T B;have D6:=Fp P w base T B;refine T.AJ.ok Er (λvs H Q E h=>?_) (λbW A outer s H vs Q E hr h=>?_)
 ·obtain ⟨b,k,x,_,_,_,_,rfl,_⟩:=h;rfl
 ·have nd:=Er.nd;have hu:=hr.units;obtain ⟨b,k,x,aa,tr,tm,ps,rfl,hb,hn,gd,q⟩:=h;refine cz ?_;intro Y
  let B0:Bk Y (nb (nb (aq qA) 2) 0):=⟨_,(xw (wJ (wu (pv 8) (kK (pv 3) (pv 7) qq)) (wN (PL (Nat.lt_of_le_of_lt (Nat.add_le_add_left (by decide) _) hu) (pv 4) (pv 7) (wg (xu (xv (pv 5) (xv (pv 6) wH rfl) rfl))) rfl))))⟩
  let B1:Bk Y (nb (aq qA) 2):=⟨_,(xw (wN (wa (PW.pt (eV (i7 (kM (wO (wS rfl) (pv 3) (pv 7) (λ_ _=>rfl)))) (dB (qF (wG Gv (hr.mono (by decide)) rfl T.IN T.IZ T.Jh .nil aC (xu (xv (wO (wS rfl) (pv 3) (pv 6) (λ_ _=>rfl)) (xv (pv 8) wH rfl) rfl))))))) B0.ps wQ)))⟩
  let B2:Bk Y ((aq qA).drop 2):=⟨_,(xw (wJ (qG PassesOwn.never rfl (wn rfl (wG EY (hr.mono (by decide)) rfl T.IH T.IR T.Jb .nil aC (xu (xv (pv 0) wH rfl)))) (wX (n:=4) rfl rfl (wD (wE (i:=5) nd rfl rfl) (wD (wE (i:=6) nd rfl rfl) (wD (wE (i:=7) nd rfl rfl) (wD (wE (i:=8) nd rfl rfl) wW))))) B1.ps) (wN (wL (wg (xu (xv (pv 3) (xv (pv 4) wH rfl) rfl)))))))⟩
  refine ⟨_,(xw (wJ (wI (i:=3) nd rfl rfl (wG D6 (hr.mono (by decide)) rfl T.Gd T.Ge T.Gf .nil aC (xu (xv (pv 0) (xv (pv 1) (xv (pv 2) wH rfl) rfl) rfl)))) (wJ (wI (i:=4) nd rfl rfl SS) B2.bl))),?_⟩;have line:=cP;have l60:=gd.len;refine (zr rfl (zr rfl (zr rfl (OY b k x aa tr tm ps ⟨rfl,hb,hn,λl H1 hl ji h1=>?_⟩))));refine λd hd=>?_;have ndl:d≠l:=(wC h1 hd).symm;have ZS:=ji.trans (xx (o:=HO.dK []) hd);have hfd:H d=none:=ji.free hd;refine (zr rfl (Zr b aa tr tm ps ⟨rfl,hb.same ZS,gd,λlw ws H2 UC iP h2 hr ew=>?_⟩));have Wc:=iP _ _ (xx (o:=HO.dK []) hd _ _ h1);have Rg:=iP _ _ (xq (H:=H1) (a:=d) (o:=HO.dK []));have rE:(ws.map (·.2)).map (·.w)=aI (ps.map (·.2)):=by
   have:=ie (ps.map (·.2));rw [zA] at this;rw [ew,this]
  have lws:ws.length=2 * ps.length:=by
   have:=congrArg List.length rE;rw [zA,zA,kh,zA] at this;exact this
  have nwl:lw≠l:=(wC (xx (o:=HO.dK []) hd _ _ h1) UC).symm;have nwd:lw≠d:=(wC (xq (H:=H1) (a:=d) (o:=HO.dK [])) UC).symm;refine ⟨lw,rfl,⟨_,aU.of h2⟩,?_⟩;refine (let W13:IV:=λi σ H4=>(∃ v5 v6 v7 v8,σ=[some (.ref b),some (.int k),some (.int x),some (.ref l),some (.ref d),v5,v6,v7,v8])/\aG H H4/\H4 l=some (.lst ((rep aa.length (((ws.take i).map (·.2.w)).foldl aK (aE k x))).map oV))/\(∃ aN,H4 d=some (.dK aN)/\aN.length<=i/\rG (ps.map (·.2)) k (((ws.take i).map (·.2.w)).foldl aK (aE k x)) aN H4)/\(∀ b u,b≠l->b≠d->H2 b=some u->H4 b=some u);qM (K:=K) (a:=lw) (xs:=(ws.map λa=>V.ref a.1)) W13)
   ?_ ?_ ?_ ?_
  ·exact ⟨⟨_,_,_,_,rfl⟩,ZS.trans iP,Wc,⟨[],Rg,zD _,λo t h=>.inl (by have h:aE k x o=some t:=h;unfold aE at h;split at h;assumption;cases h)⟩,λ_ _ _ _ e=>e⟩
  ·rintro i σ H4 _ ⟨_,_,_,_,kp⟩;exact aU.of (kp lw _ nwl nwd h2)
  ·rintro i y σ H4 hy ⟨⟨v5,v6,v7,v8,rfl⟩,lH,h4,⟨aN,YG,lk,cm⟩,kp⟩;obtain ⟨r,p8,rfl⟩:=wY hy;have hi:i < ws.length:=(zC.mp p8).1;have rm:r∈ws:=zB p8;have jK:=hr r rm;have nl:r.1≠l:=cZ jK Wc (by intro z;cases z);have nd2:r.1≠d:=cZ jK Rg (by intro z;cases z);have cy:=kp r.1 _ nl nd2 jK;have wm:r.2.w∈aI (ps.map (·.2)):=by
    rw [<-rE];exact zK.mpr ⟨r.2,zK.mpr ⟨r,rm,rfl⟩,rfl⟩
   obtain ⟨g1,g2,g3,g4,g5⟩:=qa gd wm;have gl:r.2.w.g < aa.length:=by omega
   have ol:r.2.w.o < aa.length:=by omega
   have fold:∀ f:Fn,((ws.take i).map (·.2.w)).foldl aK (aE k x)=f->((ws.take (i + 1)).map (·.2.w)).foldl aK (aE k x)=aK f r.2.w:=λf e=>by
    rw [we p8,zE,yP,e];rfl
   refine (pS cy ?_);generalize ef:((ws.take i).map (·.2.w)).foldl aK (aE k x)=f at h4 cm;have fo:=fold f ef;have hg:((rep aa.length f).map oV)[r.2.w.g]?=some (oV (f r.2.w.g)):=qu gl;have ho:((rep aa.length f).map oV)[r.2.w.o]?=some (oV (f r.2.w.o)):=qu ol;refine (zr rfl (zr rfl (fk h4 (wV ho) (zr rfl (dP (λc=>?_) (λc=>aQ rfl ?_))))))
   ·have c':=fX.mp c;refine (zr rfl (zr rfl (fk h4 (wV hg) (zr rfl ⟨f r.2.w.g,r.2.w.t,rfl,zr rfl (kP (λc2=>?_) (λc2=>?_))⟩))))
    ·refine (zr rfl (zr rfl (zr rfl ⟨l,_,_,r.2.w.o,rfl,rfl,h4,eG (by rw [zA,qZ];exact ol),?_⟩)));refine (zr rfl (zr rfl ⟨by show 2<=sizeLine;omega,λtt RM=>(zr rfl (zr rfl ⟨d,zr rfl ⟨RG.k (k:=Sum.inl (r.2.w.o:Int)) (xx RM _ _ (by rw [wF ndl];exact YG)) (by omega),?_⟩⟩))⟩));have nlt:l≠tt:=wC (xq) RM;have smx:=(aG.put (o:=HO.lst (((rep aa.length f).map oV).set r.2.w.o (.int r.2.w.t))) hl lH).trans (xx (o:=HO.tup [.int r.2.n,.int r.2.w.g]) RM);have hdx:=xx (o:=HO.tup [.int r.2.n,.int r.2.w.g]) RM _ _ (show (upd H4 l (HO.lst (((rep aa.length f).map oV).set r.2.w.o (.int r.2.w.t)))) d=some (.dK aN) by rw [wF ndl];exact YG);have ntd:tt≠d:=(wC (show (upd H4 l (HO.lst (((rep aa.length f).map oV).set r.2.w.o (.int r.2.w.t)))) d=some (.dK aN) by rw [wF ndl];exact YG) RM).symm;have lnk:fO (ps.map (·.2)) r.2.n r.2.w.g r.2.w.o r.2.w.t:=dF (i:=ps.length) (by rw [<-ew];exact zK.mpr ⟨r,rm,rfl⟩);have cmN:rG (ps.map (·.2)) k (((ws.take (i + 1)).map (·.2.w)).foldl aK (aE k x)) (putK aN (Sum.inl (r.2.w.o:Int)) (.ref tt)) (upd (upd (upd H4 l (HO.lst (((rep aa.length f).map oV).set r.2.w.o (.int r.2.w.t)))) tt (HO.tup [.int r.2.n,.int r.2.w.g])) d (HO.dK (putK aN (Sum.inl (r.2.w.o:Int)) (.ref tt)))):=by
      rw [fo];unfold aK;rw [if_pos ⟨c',c2⟩];exact rG.step (x:=r.2) (cm.br (((bN.set h4).trans (bN.new RM)).trans (bN.aco hdx))) c' c2 lnk (by rw [wF ntd,xq])
     refine ⟨⟨_,_,_,_,rfl⟩,aG.put hfd smx,?_,⟨_,xq,yC (eF _ _ _) (by omega),cmN⟩,λb u nb nb' e=>?_⟩
     ·rw [wF ndl.symm,wF nlt,xq,fo];unfold aK;rw [if_pos ⟨c',c2⟩,<- iw ol,xf];rfl
     ·rw [wF nb'];exact xx RM _ _ (by rw [wF nb];exact kp b u nb nb' e)
    ·refine ⟨⟨_,_,_,_,rfl⟩,lH,?_,⟨aN,YG,by omega,by rw [fo];unfold aK;rw [if_neg λz=>by rw [z.2] at c2;cases c2];exact cm⟩,kp⟩;rw [fo];unfold aK;rw [if_neg λz=>by rw [z.2] at c2;cases c2];exact h4
   ·refine ⟨⟨_,_,_,_,rfl⟩,lH,?_,⟨aN,YG,by omega,by rw [fo];unfold aK;rw [if_neg λz=>c (fX.mpr z.1)];exact cm⟩,kp⟩;rw [fo];unfold aK;rw [if_neg λz=>c (fX.mpr z.1)];exact h4
  ·rintro σ H4 ⟨⟨v5,v6,v7,v8,rfl⟩,lH,h4,⟨aN,YG,lk,cm⟩,kp⟩;rw [zA,zq] at h4 cm;have e:((ws.map (·.2.w)).foldl aK (aE k x))=fwd (ps.map (·.2)) (aE k x):=by
    unfold fwd;rw [<-rE,zo];rfl
   rw [e] at h4 cm;exact (zr rfl (zr rfl ⟨by show 2<=sizeLine;omega,λtt RM=>q tt l d aN _ hl (lH.trans (xx RM)) xq (xx RM _ _ h4) (xx RM _ _ YG) (cm.br (bN.new RM))⟩))
theorem Ef:aZ P w K mg base cB 3 a.As a.AW ["book", "sender", "since"] (Pq):=by
 have DN:=Eu P w base T B;refine T.AC.ok Eb (λvs H Q E h=>?_) (λbW A outer s H vs Q E hr h=>?_)
 ·obtain ⟨b,k,x,_,_,_,_,rfl,_⟩:=h;rfl
 ·have nd:=Eb.nd;have hu:=hr.units;obtain ⟨b,k,x,aa,tr,tm,ps,rfl,hk,hb,hn,gd,q⟩:=h;refine ⟨_,(xw (wJ (wu (wG DN (hr.mono (by decide)) rfl T.E6 T.E7 T.E8 .nil aC (xu (xv (pv 0) (xv (pv 1) (xv (pv 2) wH rfl) rfl) rfl))) (wX (n:=2) rfl rfl (wD (wE (i:=3) nd rfl rfl) (wD (wE (i:=4) nd rfl rfl) wW)))) (wN (wL (pv 3))))),?_⟩;refine (zr rfl (zr rfl (zr rfl (OY b k x aa tr tm ps ⟨rfl,hb,hn,gd,λt l d aN H1 hl sm ht h1 _ _=>?_⟩))));exact (R3 ht (zr rfl (q l _ hl sm h1)))
theorem HI:aZ P w K mg base cB 5 a.Cd a.Dr ["book", "letter"] (Om):=by
 have EA:=Gb P w base T B;have FF:=GJ P w base T B;have DN:=Eu P w base T B;refine T.CQ.ok Hw (λvs H Q E h=>?_) (λbW A outer s H vs Q E hr h=>?_)
 ·obtain ⟨b,lt,_,_,_,_,_,_,_,_,rfl,_⟩:=h;rfl
 ·have nd:=Hw.nd;have hu:=hr.units;obtain ⟨b,lt,s0,w0,a0,z0,aa,tr,tm,ps,rfl,hb,hn,gd,hL,qn,qy⟩:=h;refine cz ?_;intro Y
  let B0:Bk Y (nb (aq qX) 6):=⟨_,(xw (wJ (wu (PR (Nat.lt_of_le_of_lt (Nat.add_le_add_left (by decide) _) hu) (pv 7) (pv 9) (λ_ _=>rfl)) (wX (n:=2) rfl rfl (wD (wE (i:=10) nd rfl rfl) (wD (wE (i:=9) nd rfl rfl) wW)))) (wN (wv (dI zj zd zf wt (pv 8) (xu (xv (pv 10) wH rfl)))))))⟩
  let B1:Bk Y ((aq qX).drop 4):=⟨_,(xw (wJ (wI (i:=8) nd rfl rfl (wc qP)) (wJ (wI (i:=9) nd rfl rfl (pv 4)) (wJ (gP PassesOwn.never (wM lJ (pv 9) (pv 2) (aM _)) B0.ps) (wN (wL (mJ rfl (pv 8))))))))⟩
  let B2:Bk Y ((aq qX).drop 3):=⟨_,(xw (wJ (wa (qV (qF (wG EA (hr.mono (by decide)) rfl T.G6 T.G9 T.Hb .nil aC (xu (xv (wO (wS rfl) (pv 6) (pv 4) (λ_ _=>rfl)) (xv (pv 5) wH rfl) rfl))))) (xw (wN (wL eY))) wQ) B1.bl))⟩
  let B3:Bk Y ((aq qX).drop 2):=⟨_,(xw (wJ (wu (wG DN (hr.mono (by decide)) rfl T.E6 T.E7 T.E8 .nil aC (xu (xv (pv 0) (xv (pv 2) (xv (pv 3) wH rfl) rfl) rfl))) (wX (n:=2) rfl rfl (wD (wE (i:=6) nd rfl rfl) (wD (wE (i:=7) nd rfl rfl) wW)))) B2.bl))⟩
  let B4:Bk Y ((aq qX).drop 1):=⟨_,(xw (wJ (wu (pv 1) (wX (n:=4) rfl rfl (wD (wE (i:=2) nd rfl rfl) (wD (wE (i:=3) nd rfl rfl) (wD (wE (i:=4) nd rfl rfl) (wD (wE (i:=5) nd rfl rfl) wW)))))) B3.bl))⟩
  refine ⟨_,(xw (wJ (wa (qV (qF (wG FF (hr.mono (by decide)) rfl T.HM T.HS T.HY .nil aC (xu (xv (pv 0) (xv (pv 1) wH rfl) rfl))))) (xw (wN (wL eY))) wQ) B4.bl)),?_⟩;have line:=cP;obtain ⟨c8,RN,VT,_⟩:=id hL;refine (zr rfl (zr rfl (OY b (.ref lt) _ aa tr tm ps ⟨rfl,hb,hL.th,zr rfl (aQ (by rw [hL.yes];rfl) ?_)⟩)));refine (zr rfl (pS c8 ?_));refine (zr rfl (zr rfl (zr rfl (OY b s0 a0 aa tr tm ps ⟨rfl,hb,hn,gd,λt l d aN H1 hl ji ht h1 hd cm=>(R3 ht ?_)⟩))));generalize eE:fwd (ps.map (·.2)) (aE s0 a0)=E0 at qn qy h1 cm;have er:=fN (s:=s0) (x:=a0) gd;rw [eE] at er;refine (zr rfl (zr rfl (fk h1 (wV (qu VT)) (zr rfl ⟨E0 w0,z0,rfl,zr rfl (kP (λc=>?_) (λc=>?_))⟩))))
  ·exact qn (by cases e:aY (E0 w0) z0 with
    | false=>rfl
    | true=>rw [e] at c;cases c) _ ji
  obtain ⟨ew,hew,lez⟩:∃ e,E0 w0=some e/\e<=z0:=aL.mp (by cases e:aY (E0 w0) z0 with
    | true=>rfl
    | false=>rw [e] at c;cases c)
  refine ⟨za _,λlc iA=>(zr rfl ?_)⟩;have adm:H lc=none:=ji.free iA;refine vf (fun σ H4=>∃ (v:Nat) (e:Int) (cs:List Int),∃ v10,σ=[some (.ref b),some (.ref lt),some (.int s0),some (.int a0),some (.int w0),some (.int z0),some (.ref l),some (.ref d),some (.ref lc),some (.int v),v10]/\E0 v=some e/\H4 lc=some (.lst (List.map V.int cs.reverse)) /\
    (∀ b u,b≠lc->H1 b=some u->H4 b=some u)/\cs.length + gq aa.length E0 e<=aa.length /\
    (∀ A:Int,(A=-1\/∃ n:Nat,∃ m,A=n/\(ps.map (·.2))[n]?=some m/\m.t<=e)->aR (ps.map (·.2)) v e A cs=some (w0,ew)))
   (fun σ _=>mu aa.length E0 σ) ?_ ?_ ?_
  ·exact ⟨w0,ew,[],zr rfl ⟨hew,xq,λb u nb e=>by rw [wF nb];exact e,by have:=Vp aa.length E0 ew;simpa using this,λA _=>rfl⟩⟩
  ·rintro σ H4 ⟨v,e,cs,v10,rfl,he,hc,kp,lrk,wk⟩;refine (zr rfl (zr rfl ⟨rfl,zr rfl ?_⟩));by_cases hv:v=s0
   ·subst hv;rw [er.self] at he;cases he;refine Ym rfl ?_;refine (zr rfl ⟨lc,zr rfl ⟨aU.of hc,λlr Nj=>?_⟩⟩);have e1:(List.map V.int cs.reverse).reverse=List.map V.int cs:=by rw [<-xg,List.reverse_reverse]
    rw [e1];have RK:aG H H4:=λb u eb=>kp b u (wC eb adm) (ji b u eb);exact qy ew lr cs _ hew lez (RK.free Nj) (RK.trans (xx Nj)) xq (by omega) (wk (-1) (.inl rfl))
   ·refine bP (by have:¬ V.int (v:Int)=V.int (s0:Int):=λz=>hv (by have:=V.int.inj z;omega);simp [this]) ?_;obtain WN | ⟨tt,n,g,y,c1,c2,c3,c4,c5⟩:=cm v e he
    ·exact absurd WN hv
    obtain ⟨gi,vi,gv⟩:=c3.inside gd;have hd4:=kp d _ (λz=>by rw [z] at hd;rw [hd] at iA;cases iA) hd;have Ys:=kp tt _ (λz=>by rw [z] at c2;rw [c2] at iA;cases iA) c2;have dg:iK H4 d (.int (v:Int)) (some (.ref tt)):=by
     have:=iK.k (k:=Sum.inl (v:Int)) hd4;rw [c1] at this;exact this
    have rl:=Vo gi c4 c5;refine (zr rfl (zr rfl ⟨d,.ref tt,rfl,dg,R3 Ys ?_⟩));refine (zr rfl ⟨.inl ⟨rfl,_,aU.of hc⟩,zr rfl ⟨lc,aT rfl rfl ⟨hc,by rw [zA,yh];omega,⟨g,y,(n:Int)::cs,zr rfl ⟨c4,?_,λb u nb eb=>by rw [wF nb];exact kp b u nb eb,by rw [zU];omega,λA hA=>?_⟩⟩,?_⟩⟩⟩)
    ·rw [xq,xU,zE];rfl
    ·obtain ⟨m,hm,mt,_⟩:=id c3;have an:A < n:=by
      rcases hA with rfl | ⟨n',m',rfl,gG,lt'⟩
      ·omega
      ·have:=ux gd.ord.2 gG hm (by omega);omega
     rw [fq c3 gv c5 an];exact wk n (.inr ⟨n,m,rfl,hm,by omega⟩)
    ·show mu aa.length E0 _ < mu aa.length E0 _;unfold mu;simp only [yR,yQ,z8,yD,zk,c4,he];exact rl
  ·rintro σ H4 Q1 Q2 hq ⟨x,hx,y,hy,hsc,k1,hk1,h⟩;exact ⟨x,hx,y,hy,hsc,k1,hk1,hq _ _ h⟩
theorem Lg:aZ P w K mg base cB 1 a.Cc a.Dq ["meeting", "sent"] (Qy):=by
 refine T.CP.ok Hv (λvs H Q E h=>?_) (λbW A outer s H vs Q E hr h=>?_)
 ·obtain ⟨_,_,_,_,_,rfl,_⟩:=h;rfl
 ·have nd:=Hv.nd;have hu:=hr.units;obtain ⟨t,l,m,th,bk,rfl,ht,hl,m0,m1,q⟩:=h;refine cz ?_;intro Y
  let B0:Bk Y ((aq EF).drop 1):=⟨_,(xw (wJ (wu (pv 1) (Vx (n:=2) rfl (wD (wE (i:=6) nd rfl rfl) (wD (wE (i:=7) nd rfl rfl) wW)))) (wJ (wa (wM cY (pv 6) (pv 7) (aM _)) (xw (wN (wL eY))) wQ) (wN (wL (jF (wM lK (pv 6) (pv 7) (aM _)) (pv 2) (pv 3)))))))⟩
  refine ⟨_,(xw (wJ (wu (pv 0) (wX (n:=4) rfl rfl (wD (wE (i:=2) nd rfl rfl) (wD (wE (i:=3) nd rfl rfl) (wD (wE (i:=4) nd rfl rfl) (wD (wE (i:=5) nd rfl rfl) wW)))))) B0.bl)),?_⟩;refine (zr rfl (pS ht ?_));refine (zr rfl ⟨l,zr rfl ⟨aU.of hl,rfl,gJ rfl (aT rfl rfl ?_)⟩⟩);refine (zr rfl (zr rfl ⟨rfl,zr rfl (dP (λc=>?_) (λc=>?_))⟩))
  ·rw [if_pos (V.int.inj c)] at q;exact q
  ·rw [if_neg λz=>c (by rw [z])] at q;refine (zr rfl (zr rfl (aT rfl rfl (zr rfl (dP (λc=>?_) (λc=>?_))))))
   ·rw [if_pos (show bk < th by omega)] at q;have e:oG (some m.lo.toNat)=V.int m.lo:=by show V.int ((m.lo.toNat:Nat):Int)=_;rw [yi m0]
    rw [e] at q;exact (zr rfl q)
   ·rw [if_neg (show ¬ bk < th by omega)] at q;have e:oG (some m.hi.toNat)=V.int m.hi:=by show V.int ((m.hi.toNat:Nat):Int)=_;rw [yi m1]
    rw [e] at q;exact (zr rfl q)
theorem IA:aZ P w K mg base cB 3 a.AM a.BO ["book", "letter"] (Sn a.Aa):=by
 have EB:=IB P w base T B;have EY:=GH P w base T B;have GW:=Gc P w base T B;have GV:=JF P w base T B;have Ka:=IF P w base T B;have Kb:=IG P w base T B;have Mn:=Lg P w base T B;refine T.Bh.ok Ff (λvs H Q E h=>?_) (λbW A outer s H vs Q E hr h=>?_)
 ·obtain ⟨_,_,_,_,_,_,_,_,_,_,rfl,_⟩:=h;rfl
 ·have nd:=Ff.nd;have hu:=hr.units;obtain ⟨b,lt,s0,w0,x0,z0,aa,tr,tm,ps,rfl,hb,ud,vF,gd,hL,ne,q⟩:=h;refine cz ?_;intro Y
  let B0:Bk Y ((aq wZ).drop 8):=⟨_,(xw (wN (wL (qQ (own:=["number", "meeting"]) (caps:=[14]) rfl (show aV ["number", "meeting"] [14] ["book", "letter", "sender", "since", "wish", "last", "walkers", "stream", "ties", "number", "giver", "other", "when", "point", "sent"] (aB wZ) _ from L2.gU) (nR rfl rfl T.dc (xu (xv (wO (wT rfl) (pv 0) xy (λ_ _=>rfl)) wH rfl))) (λ_ _ _ _=>(wX (n:=2) rfl rfl (wD (wE (i:=0) (show List.Nodup (["number", "meeting", "sent"]:List Str) from by decide +kernel) rfl rfl) (wD (wE (i:=1) (show List.Nodup (["number", "meeting", "sent"]:List Str) from by decide +kernel) rfl rfl) wW)))) (λ_ _ _ _=>qU) (λ_ _ _ _=>(wG Mn (hr.mono (by decide)) rfl T.LT T.LX T.L5 .nil aC (xu (xv (pv 1) (xv (vL (vC rfl) (pv 2) (jE (wK qI xy (pv 0))) (jE (wK wb (wK qI xy (pv 0)) xy))) wH rfl) rfl))))))))⟩
  let B1:Bk Y ((aq wZ).drop 7):=⟨_,(xw (wJ (wI (i:=14) nd rfl rfl (qQ (own:=["tie"]) (caps:=[7]) rfl (show aV ["tie"] [7] ["book", "letter", "sender", "since", "wish", "last", "walkers", "stream", "ties", "number", "giver", "other", "when", "point", "sent"] (aB wZ) _ from L2.gU) (wn rfl (pv 8)) (λ_ _ _ _=>(wE (i:=0) (show List.Nodup (["tie", "stream"]:List Str) from by decide +kernel) rfl rfl)) (λ_ _ _ _=>qU) (λ_ _ _ _=>(fT (pv 1) T.Ag T.J1 Ka (hr.mono (by decide)) T.JS .nil aC (xu (xv (pv 0) wH rfl)))))) B0.bl))⟩
  let B2:Bk Y ((aq wZ).drop 6):=⟨_,(xw (wJ (wv (fT (pv 7) T.Ag T.J5 Kb (hr.mono (by decide)) T.JT .nil aC (xu (xv (wK wb (wK qI (wG EB (hr.mono (by decide)) rfl T.FH T.FI T.FJ .nil aC (xu (xv (pv 0) (xv (pv 3) wH rfl) rfl))) (pv 6)) (pv 2)) (xv (wK wb (wK qI (wG EB (hr.mono (by decide)) rfl T.FH T.FI T.FJ .nil aC (xu (xv (pv 0) (xv (pv 5) wH rfl) rfl))) (pv 6)) (pv 4)) wH rfl) rfl)))) B1.bl))⟩
  let B3:Bk Y (nb (aq wZ) 5):=⟨_,(xw (wN (wv (fT (pv 7) T.Ag T.GT GV (hr.mono (by decide)) T.GP .nil aC (xu (xv (pv 13) (xv (wK wb (pv 13) (pv 6)) (xv xy wH rfl) rfl) rfl))))))⟩
  let B4:Bk Y ((aq wZ).drop 5):=⟨_,(xw (wJ (qG PassesOwn.never rfl (fG rfl T.f9 (xu (xv (wK qI (pv 6) (wP (wR rfl) (by rfl) T.cH PySem.boot_len (xu (xv (wO (wT rfl) (pv 0) xy (λ_ _=>rfl)) wH rfl)))) wH rfl))) (wE (i:=13) nd rfl rfl) B3.ps) B2.bl))⟩
  let B5:Bk Y (nb (aq wZ) 4):=⟨_,(xw (wN (wv (dI zj zd zf wt (pv 8) (xu (xv (fT (pv 7) T.Ag T.GT GV (hr.mono (by decide)) T.GP .nil aC (xu (xv (wK wb (wK qI (pv 9) (pv 6)) (pv 10)) (xv (wK wb (wK wb (wK qI (pv 9) (pv 6)) (pv 6)) (pv 11)) (xv xy wH rfl) rfl) rfl))) wH rfl))))))⟩
  let B6:Bk Y ((aq wZ).drop 4):=⟨_,(xw (wJ (qG PassesOwn.never rfl (wn rfl (wG EY (hr.mono (by decide)) rfl T.IH T.IR T.Jb .nil aC (xu (xv (pv 0) wH rfl)))) (wX (n:=4) rfl rfl (wD (wE (i:=9) nd rfl rfl) (wD (wE (i:=10) nd rfl rfl) (wD (wE (i:=11) nd rfl rfl) (wD (wE (i:=12) nd rfl rfl) wW))))) B5.ps) B4.bl))⟩
  let B7:Bk Y ((aq wZ).drop 2):=⟨_,(xw (wJ (wI (i:=7) nd rfl rfl (Vz T.MN GW (hr.mono (by decide)) rfl T.MJ T.GQ .nil aC (xu (xv (wK qI (pv 6) (wK wb (wP (wR rfl) (by rfl) T.cH PySem.boot_len (xu (xv (wO (wT rfl) (pv 0) xy (λ_ _=>rfl)) wH rfl))) xy)) wH rfl)))) (wJ (wI (i:=8) nd rfl rfl (wc qP)) B6.bl)))⟩
  refine ⟨_,(xw (wJ (wu (pv 1) (wX (n:=4) rfl rfl (wD (wE (i:=2) nd rfl rfl) (wD (wE (i:=3) nd rfl rfl) (wD (wE (i:=4) nd rfl rfl) (wD (wE (i:=5) nd rfl rfl) wW)))))) (wJ (wI (i:=6) nd rfl rfl (wP (wR rfl) (by rfl) T.cH PySem.boot_len (xu (xv (wO (wT rfl) (pv 0) xy (λ_ _=>rfl)) wH rfl)))) B7.bl))),?_⟩;have line:3010<=sizeLine:=by rw [sizeLine_eq];decide
  have OH:=gd.len;have QY:(ps.map (·.2)).length=ps.length:=zA ..;have lpr:(ps.map λa=>V.ref a.1).length=ps.length:=zA ..;obtain ⟨ji,iP⟩:=QE vF OH;refine (zr rfl (pS hL.1 ?_));refine (zr rfl (cT hb.book rfl ⟨tr,zr rfl ⟨.inr (bS.of hb.aa),?_⟩⟩));rw [zA];refine (zr rfl (zr rfl (cT hb.book rfl ⟨tm,zr rfl ⟨.inr (bS.of hb.meets),?_⟩⟩)));rw [lpr];refine (aT rfl rfl (aT rfl rfl ⟨.inl ⟨by omega,by omega⟩,λx dx fx fdx ndx=>⟨x,dx,aa.length * (ps.length + 1),rfl,xq,by omega,λlA lE lS as H1 b1 Pn fr1=>⟨rfl,?_⟩⟩⟩));have s1:=QW fx fdx b1;have fr:∀ b∈x::lA::lE::lS::as,H b=none:=λb hb=>by
   rcases zH.mp hb with rfl | hb
   ·exact fx
   ·exact QX (fr1 b hb)
  have Zq:∀ b∈x::lE::lS::as,b∈x::lA::lE::lS::as:=λb hb=>by
   rcases zH.mp hb with rfl | hb
   ·exact .head _
   ·exact .tail _ (.tail _ hb)
  refine ⟨by show 0<=sizeLine;omega,λla V0=>?_⟩;have ola:la ∉ x::lA::lE::lS::as:=λh=>vM Pn la h V0;have fla:H la=none:=s1.free V0;have s2:=xx (o:=HO.lst []) V0;have h2:upd H1 la (HO.lst []) la=some (.lst []):=xq;generalize upd H1 la (HO.lst [])=H2 at s2 h2 ⊢;have vc:=Pn.same s2;have s02:=s1.trans s2;refine (zr rfl (Zr b aa tr tm ps ⟨rfl,hb.same s02,gd,λlw ws H3 UC s3 h3 r3 ew=>?_⟩));have olw:lw ∉ x::lA::lE::lS::as:=λh=>vM vc lw h UC;have nlw:lw≠la:=λe=>by rw [e,h2] at UC;cases UC
  have lws:ws.length=2 * ps.length:=by
   have:=congrArg List.length ew;rw [zA] at this;rw [this,<- zA (f:=jn aa.length),<- R9,<- QY,iZ _ (zD _)]
  have ab7:∀ y∈ws,y.2.n < ps.length/\y.2.w.g < aa.length/\y.2.w.o < aa.length:=λy hy=>by
   have:y.2∈cM (ps.map (·.2)) ps.length:=by rw [<-ew];exact zK.mpr ⟨y,hy,rfl⟩
   have:=RZ gd this;rwa [QY] at this
  refine ⟨lw,rfl,⟨_,aU.of h3⟩,?_⟩;refine (let W14:IV:=λi σ H4=>(∃ o9 Z8 Z7 Z6,σ=[some (.ref b),some (.ref lt),some (.int (s0:Int)),some (.int x0),some (.int (w0:Int)),some (.int z0),some (.int (aa.length:Int)),some (.ref x),some (.ref la),o9,Z8,Z7,Z6,none,none])/\aG H H4/\H4 lw=some (.lst (ws.map λy=>V.ref y.1))/\H4 la=some (.lst (iL i))/\(∀ y∈ws,H4 y.1=some (.tup y.2.vs))/\mG a.Aa H4 x dx lA lE lS as 0 (aa.length * (ps.length + 1)) ((ws.take i).map λy=>jn aa.length y.2) (i6 ((ws.take i).map λy=>jn aa.length y.2));qM (K:=K) (a:=lw) (xs:=ws.map λy=>V.ref y.1) W14 ⟨⟨_,_,_,_,rfl⟩,s02.trans s3,h3,s3 _ _ h2,r3,vc.same s3⟩ (λi σ H4 _ h=>aU.of h.2.2.1) ?_ ?_)
  ·rintro i v σ H4 hv ⟨⟨o9,Z8,Z7,Z6,rfl⟩,s4,h4w,h4a,r4,u9⟩;obtain ⟨y,hy,rfl⟩:=wY hv;have ym:=zB hy;obtain ⟨y1,y2,y3⟩:=ab7 y ym;have hi:i < 2 * ps.length:=by rw [<-lws];exact (zC.mp hy).1
   have eT:(ws.take (i + 1)).map (λy=>jn aa.length y.2)=(ws.take i).map (λy=>jn aa.length y.2)++[jn aa.length y.2]:=by rw [xX,hy,zE];rfl
   have eL:((ws.take i).map λy=>jn aa.length y.2).length=i:=by rw [zA,zV];omega
   have p1:=PK (W:=aa.length) (xY y1) y2;have p2:=PK (W:=aa.length) (show y.2.n + 1<=ps.length by omega) y3;rw [yV] at p2;refine (pS (r4 y ym) ?_);refine (zr rfl ⟨.inl ⟨rfl,_,aU.of h4a⟩,?_⟩);refine (zr rfl ⟨x,dx,zr rfl ⟨u9.raw.ins,rfl,?_⟩⟩);refine (zr rfl (zr rfl (aT rfl rfl ⟨.inl ⟨by omega,by omega⟩,zr rfl (aT rfl rfl ?_)⟩)));refine (zr rfl (zr rfl (aT rfl rfl ⟨.inl ⟨by omega,by omega⟩,zr rfl (aT rfl rfl (zr rfl (aT rfl rfl ?_)))⟩)));refine ⟨x,dx,lA,lE,lS,as,0,_,_,_,y.2.n * aa.length + y.2.w.g,y.2.n * aa.length + aa.length + y.2.w.o,1,rfl,u9,p1,p2,by decide,by omega,λH5 k5 gF=>?_⟩;rw [eL];have t5:=u9.Xn k5 Zq;have Zo:=k5 _ _ (λh=>ola (Zq _ h)) h4a;have h5w:=k5 _ _ (λh=>olw (Zq _ h)) h4w;have s5:=bC.same s4 k5 λb hb=>fr b (Zq b hb);refine ⟨la,aT rfl rfl ⟨Zo,by rw [uy];omega,?_⟩⟩;refine ⟨⟨_,_,_,_,rfl⟩,aG.put fla s5,by rw [wF nlw];exact h5w,by rw [xq,VR],λy' Zg=>(bN.set Zo) _ _ (t5 _ _ (r4 y' Zg)),?_⟩;rw [eT,vB];exact mG.kept (M:=[la]) gF (bC.upd (.head _)) λb hb h=>ola (by rw [<-zJ.mp h];exact hb)
  rintro σ H4 ⟨⟨o9,Z8,Z7,Z6,rfl⟩,s4,_,h4a,_,u9⟩;have eW:(ws.take (ws.map λy=>V.ref y.1).length).map (λy=>jn aa.length y.2)=iF (ps.map (·.2)) aa.length (ps.map (·.2)).length:=by
   rw [zA,zq,R9,QY,<- ew,zo];rfl
  rw [eW] at u9;rw [zA,lws] at h4a;have hb4:=hb.same s4;refine (zr rfl (zr rfl (cT hb4.book rfl ⟨tm,zr rfl ⟨.inr (bS.of hb4.meets),?_⟩⟩)));rw [lpr];refine (aT rfl rfl ⟨.inl ⟨by omega,by omega⟩,zr rfl ⟨?_,?_,?_⟩⟩)
  ·show -(2 ^ 62)<=((aa.length * ps.length:Nat):Int);omega
  ·show ((aa.length * ps.length:Nat):Int) < 2 ^ 62;omega
  refine (let W15:IV:=λi σ H5=>(∃ o9 Z8 Z7 Z6 o13,σ=[some (.ref b),some (.ref lt),some (.int (s0:Int)),some (.int x0),some (.int (w0:Int)),some (.int z0),some (.int (aa.length:Int)),some (.ref x),some (.ref la),o9,Z8,Z7,Z6,o13,none])/\aG H H5/\H5 la=some (.lst (iL (2 * ps.length)))/\mG a.Aa H5 x dx lA lE lS as 0 (aa.length * (ps.length + 1)) (iF (ps.map (·.2)) aa.length (ps.map (·.2)).length++(List.range i).map λq=>⟨q,q + aa.length,2⟩) (i6 (iF (ps.map (·.2)) aa.length (ps.map (·.2)).length++(List.range i).map λq=>⟨q,q + aa.length,2⟩));fM (lo:=0) (n:=aa.length * ps.length) W15 ⟨⟨_,_,_,_,_,rfl⟩,s4,h4a,by rw [List.range_zero,yN,zy];exact u9⟩ ?_ ?_)
  ·rintro i σ H5 hi ⟨⟨p9,p10,p11,p12,p13,rfl⟩,s5,Zo,gF⟩;rw [Int.zero_add];have eL:(iF (ps.map (·.2)) aa.length (ps.map (·.2)).length++(List.range i).map λq=>(⟨q,q + aa.length,2⟩:bY)).length=2 * ps.length + i:=by rw [zG,iZ _ (zD _),zA,zA,yK]
   have e1:aa.length * (ps.length + 1)=aa.length * ps.length + aa.length:=Nat.mul_succ ..;refine (zr rfl ⟨x,dx,zr rfl ⟨gF.raw.ins,rfl,zr rfl (zr rfl (zr rfl (aT rfl rfl ⟨x,dx,lA,lE,lS,as,0,_,_,_,i,i + aa.length,2,rfl,gF,by omega,by omega,by decide,by omega,λH6 k6 t6=>?_⟩)))⟩⟩);refine ⟨⟨_,_,_,_,_,rfl⟩,bC.same s5 k6 λb hb=>fr b (Zq b hb),k6 _ _ (λh=>ola (Zq _ h)) Zo,?_⟩;rw [Qs,vB];exact t6
  rintro σ H5 ⟨⟨p9,p10,p11,p12,p13,rfl⟩,s5,Zo,gF⟩;have eT:iF (ps.map (·.2)) aa.length (ps.map (·.2)).length++(List.range (aa.length * ps.length)).map (λq=>(⟨q,q + aa.length,2⟩:bY))=aX (ps.map (·.2)) aa.length:=by unfold aX;rw [QY]
  rw [eT] at gF;have c1:=gY (ps.map (·.2)) x0;have c2:=gY (ps.map (·.2)) z0;rw [QY] at c1 c2;have p1:=PK (W:=aa.length) c1 hL.2.1;have p2:=PK (W:=aa.length) c2 hL.2.2.1;refine (zr rfl ⟨x,dx,zr rfl ⟨gF.raw.ins,rfl,?_⟩⟩);refine (zr rfl (zr rfl (ex6 b x0 aa tr tm ps ⟨rfl,hb.same s5,by omega,λH6 s6=>?_⟩)));refine (zr rfl (aT rfl rfl ⟨.inl ⟨by omega,by omega⟩,zr rfl (aT rfl rfl ?_)⟩));have XI:=s5.trans s6;refine (zr rfl (zr rfl (ex6 b z0 aa tr tm ps ⟨rfl,hb.same XI,by omega,λH7 s7=>?_⟩)));refine (zr rfl (aT rfl rfl ⟨.inl ⟨by omega,by omega⟩,zr rfl (aT rfl rfl ?_)⟩));have s07:=XI.trans s7;have Qu:=(gF.same s6).same s7;have h7a:=s7 _ _ (s6 _ _ Zo);refine ⟨x,dx,lA,lE,lS,as,0,_,_,_,cnt (ps.map (·.2)) x0 * aa.length + s0,cnt (ps.map (·.2)) z0 * aa.length + w0,rfl,Qu,p1,p2,λe=>ne ((nN hL.2.1 hL.2.2.1).mp e).2,λtot dH tree H8 k8 Pk t0 nt tk ng cl=>?_⟩;have m8:∀ b∈[x,lS],b∈x::lA::lE::lS::as:=λb hb=>by
   rcases zH.mp hb with rfl | hb
   ·exact .head _
   ·rw [zJ.mp hb];exact .tail _ (.tail _ (.tail _ (.head _)))
  have s08:=bC.same s07 k8 λb hb=>fr b (m8 b hb);have h8a:=k8 _ _ (λh=>ola (m8 _ h)) h7a;have se:Uq (ps.map (·.2)) aa.length s0 w0 x0 z0 dH tot (cK tree):=⟨Pk.snd,λp=>by rw [nt p,P0,Int.zero_add],tk.nod,cl,tk.src,ng⟩;have tl:(aX (ps.map (·.2)) aa.length).length=2 * ps.length + aa.length * ps.length:=by rw [nq,QY]
  refine (zr rfl ⟨la,rfl,⟨_,aU.of h8a⟩,?_⟩);refine (let W16:IC:=λi τ acc H9=>(∃ t0,τ=[t0,some (.ref x)])/\acc=((List.range i).map λk=>V.int (bK dH (2 * k + 1)))/\H9=H8;cU (K:=K) (a:=la) (xs:=iL (2 * ps.length)) W16 ⟨⟨_,rfl⟩,rfl,rfl⟩ (by rw [uy];omega) ?_ ?_ ?_)
  ·rintro i τ acc H9 ⟨⟨t0,rfl⟩,rfl,rfl⟩;exact ⟨by rw [zA,yK];exact zD _,aU.of h8a⟩
  ·rintro i v τ acc H9 C hv ⟨⟨t0,rfl⟩,rfl,rfl⟩ hC;obtain ⟨hi,rfl⟩:=aao hv;refine (zr rfl ⟨x,dx,zr rfl ⟨Pk.raw.ins,rfl,zr rfl ⟨x,dx,lA,lE,lS,as,_,_,_,_,i,rfl,Pk,by omega,hC _ _ _ ⟨⟨_,rfl⟩,?_,rfl⟩⟩⟩⟩);rw [yj,zE];rfl
  rintro τ acc H9 ⟨_,rfl,rfl⟩ ls fls;rw [uy];have sA:=xx (o:=HO.lst ((List.range (2 * ps.length)).map λk=>V.int (bK dH (2 * k + 1)))) fls;have hA:upd H9 ls (HO.lst ((List.range (2 * ps.length)).map λk=>V.int (bK dH (2 * k + 1)))) ls=some (.lst ((List.range (2 * ps.length)).map λk=>V.int (bK dH (2 * k + 1)))):=xq;generalize upd H9 ls _=HA at sA hA ⊢;have s0A:=s08.trans sA;have hbA:=hb.same s0A;refine (zr rfl (cT hbA.book rfl ⟨tm,rfl,⟨_,bS.of hbA.meets⟩,?_⟩));refine (let W17:IC:=λi τ acc HB=>(∃ t0 t1,τ=[t0,t1,some (.ref ls)])/\acc=OU i (cu (ps.map (·.2)) dH)/\aG HA HB;oZ (K:=K) (a:=tm) (xs:=ps.map λa=>V.ref a.1) W17 ⟨⟨_,_,rfl⟩,rfl,aG.refl _⟩ (by rw [lpr];omega) ?_ ?_ ?_)
  ·rintro i τ acc HB ⟨⟨t0,t1,rfl⟩,rfl,sB⟩;exact ⟨by rw [jM];exact zD _,bS.of (sB _ _ hbA.meets)⟩
  ·rintro i v k τ acc HB C hv hk ⟨⟨t0,t1,rfl⟩,rfl,sB⟩ hC;obtain ⟨r,hr,rfl⟩:=wY hv;have hi:i < ps.length:=(zC.mp hr).1;have hm:(ps.map (·.2))[i]?=some r.2:=by rw [zS,hr];rfl
   obtain ⟨b1,b2,b3,_⟩:=gd.each r.2 (zB hm);have sC:=sB.trans (xx (o:=HO.tup [V.int (i:Int),V.ref r.1]) hk);have kC:upd HB k (HO.tup [V.int (i:Int),V.ref r.1]) k=some (.tup [V.int (i:Int),V.ref r.1]):=xq;generalize upd HB k _=HC at sC kC ⊢;refine (R3 kC ?_);refine (zr rfl (zr rfl (zr rfl (aT rfl rfl ⟨.inl ⟨by decide,by decide⟩,?_⟩))));refine (zr rfl (zr rfl (aT rfl rfl ⟨.inl ⟨by decide,by decide⟩,aT rfl rfl (zr rfl ⟨ls,zr rfl ⟨aU.of (sC _ _ hA),λlp hlp=>?_⟩⟩)⟩)));have ec:=Wj (f:=λk=>V.int (bK dH (2 * k + 1))) (show 2 * i + 2<=2 * ps.length by omega);have ec:uN ((List.range (2 * ps.length)).map λk=>V.int (bK dH (2 * k + 1))) (some (2 * (i:Int))) (some (2 * (i:Int) + 2))=[V.int (gM dH i),V.int (ia dH i)]:=ec;rw [ec];have sD:=sC.trans (xx (o:=HO.lst [V.int (gM dH i),V.int (ia dH i)]) hlp);refine ⟨r.1,lp,r.2,gM dH i,ia dH i,rfl,sD _ _ (hbA.rows r (zB hr)),xq,b1,by omega,hC _ _ _ ⟨⟨_,_,rfl⟩,?_,sD⟩⟩;rw [oM];congr 2;unfold cu;have el:bf (ps.map (·.2)) i=r.2.lo.toNat:=by unfold bf;rw [hm];rfl
   have eh:bg (ps.map (·.2)) i=r.2.hi.toNat:=by unfold bg;rw [hm];rfl
   rw [el,eh]
  ·rintro τ acc HB ⟨⟨t0,t1,rfl⟩,rfl,sB⟩ lc iA;rw [lpr];have sC:=s0A.trans sB;exact q lc dH tot (cK tree) _ (sC.trans (xx iA)) (sC.free iA) xq se
theorem Lh:aZ P w K mg base cB 2 a.Ce a.Ds ["book", "letter", "givers"] (Qz):=by
 have EB:=IB P w base T B;have Gs:=HF P w base T B;refine T.CS.ok Hy (λvs H Q E h=>?_) (λbW A outer s H vs Q E hr h=>?_)
 ·obtain ⟨_,_,_,_,_,_,_,_,_,_,_,_,rfl,_⟩:=h;rfl
 ·have nd:=Hy.nd;have hu:=hr.units;obtain ⟨b,lt,lg,s0,w0,x,z,aa,tr,tm,ps,g,rfl,hb,rn,gd,hL,hg,gi,q⟩:=h;refine cz ?_;intro Y
  let B0:Bk Y (nb (nb (aq D1) 3) 0):=⟨_,(xw (wJ (wv (dI zj zd zf wt (pv 8) (xu (xv (pv 9) wH rfl)))) (wN (wI (i:=7) nd rfl rfl (wG Gs (hr.mono (by decide)) rfl T.IJ T.IT T.Jd .nil aC (xu (xv (pv 0) (xv (pv 9) (xv (pv 7) wH rfl) rfl) rfl)))))))⟩
  let B1:Bk Y ((aq D1).drop 3):=⟨_,(xw (wJ (qG PassesOwn.never rfl (sf rfl T.f9 (xu (xv (wG EB (hr.mono (by decide)) rfl T.FH T.FI T.FJ .nil aC (xu (xv (pv 0) (xv (pv 4) wH rfl) rfl))) (xv (wG EB (hr.mono (by decide)) rfl T.FH T.FI T.FJ .nil aC (xu (xv (pv 0) (xv (pv 6) wH rfl) rfl))) wH rfl) rfl))) (wE (i:=9) nd rfl rfl) (xw (wN (wa (wM cY (wO (wS rfl) (pv 2) (pv 9) (λ_ _=>rfl)) (pv 7) (aM _)) B0.ps wQ)))) (wN (wL (pv 8)))))⟩
  refine ⟨_,(xw (wJ (wu (pv 1) (wX (n:=4) rfl rfl (wD (wE (i:=3) nd rfl rfl) (wD (wE (i:=4) nd rfl rfl) (wD (wE (i:=5) nd rfl rfl) (wD (wE (i:=6) nd rfl rfl) wW)))))) (wJ (wI (i:=7) nd rfl rfl (pv 3)) (wJ (wI (i:=8) nd rfl rfl (wc qP)) B1.bl)))),?_⟩;have line:3010<=sizeLine:=by rw [sizeLine_eq];decide
  have OH:=gd.len;have QY:(ps.map (·.2)).length=ps.length:=zA ..;refine (zr rfl (pS hL.1 ?_));refine (zr rfl ?_);refine ⟨by show 0<=sizeLine;omega,λlc iA=>?_⟩;have s1:=xx (o:=HO.lst []) iA;have h1:upd H lc (HO.lst []) lc=some (.lst []):=xq;generalize upd H lc (HO.lst [])=H1 at *;have c1:=gY (ps.map (·.2)) x;have c2:=gY (ps.map (·.2)) z;refine (zr rfl (zr rfl (ex6 b x aa tr tm ps ⟨rfl,hb.same s1,by omega,λH2 s2=>?_⟩)));refine (zr rfl (zr rfl (ex6 b z aa tr tm ps ⟨rfl,hb.same (s1.trans s2),by omega,λH3 s3=>?_⟩)));have RL:=s2.trans s3;have h3:=RL _ _ h1;have s03:=s1.trans RL;refine (gJ rfl ⟨⟨by omega,by omega,by omega,by omega⟩,?_⟩);have eN:(((cnt (ps.map (·.2)) z:Nat):Int) - ((cnt (ps.map (·.2)) x:Nat):Int)).toNat=cnt (ps.map (·.2)) z - cnt (ps.map (·.2)) x:=by omega
  refine fM (lo:=((cnt (ps.map (·.2)) x:Nat):Int)) (λk σ H4=>(∃ o9,σ=[some (.ref b),some (.ref lt),some (.ref lg),some (.int (s0:Int)),some (.int x),some (.int (w0:Int)),some (.int z),some (.int ((aS (bf (ps.map (·.2))) (bg (ps.map (·.2))) g (cnt (ps.map (·.2)) x) s0 k).2:Int)),some (.ref lc),o9])/\aG H H4/\H4 lc=some (.lst (List.map V.int (aS (bf (ps.map (·.2))) (bg (ps.map (·.2))) g (cnt (ps.map (·.2)) x) s0 k).1))) ⟨⟨_,rfl⟩,s03,h3⟩ ?_ ?_
  ·rintro k σ H4 hk ⟨⟨o9,rfl⟩,s4,h4⟩;have uA:cnt (ps.map (·.2)) x + k < ps.length:=by omega
   obtain ⟨m,hm⟩:∃ m,(ps.map (·.2))[cnt (ps.map (·.2)) x + k]?=some m:=⟨_,zO (by omega)⟩;have en:((cnt (ps.map (·.2)) x:Nat):Int) + (k:Int)=((cnt (ps.map (·.2)) x + k:Nat):Int):=by omega
   rw [en];have kk:=rV (lo:=bf (ps.map (·.2))) (hi:=bg (ps.map (·.2))) (g:=g) (a:=cnt (ps.map (·.2)) x) (s0:=s0) (K:=k);by_cases c:g (cnt (ps.map (·.2)) x + k)=some (aS (bf (ps.map (·.2))) (bg (ps.map (·.2))) g (cnt (ps.map (·.2)) x) s0 k).2
   ·have er:=jy c;have gi':=gi _ _ uA c;have mv:((cS (bf (ps.map (·.2))) (bg (ps.map (·.2))) g (cnt (ps.map (·.2)) x + k) (aS (bf (ps.map (·.2))) (bg (ps.map (·.2))) g (cnt (ps.map (·.2)) x) s0 k).2:Nat):Int)=if ((aS (bf (ps.map (·.2))) (bg (ps.map (·.2))) g (cnt (ps.map (·.2)) x) s0 k).2:Int)=m.lo then m.hi else m.lo:=by
     obtain ⟨b1,b2,b3,_⟩:=gd.each m (zB hm);have el:bf (ps.map (·.2)) (cnt (ps.map (·.2)) x + k)=m.lo.toNat:=by unfold bf;rw [hm];rfl
     have eh:bg (ps.map (·.2)) (cnt (ps.map (·.2)) x + k)=m.hi.toNat:=by unfold bg;rw [hm];rfl
     unfold cS;rw [if_pos c,el,eh];generalize (aS (bf (ps.map (·.2))) (bg (ps.map (·.2))) g (cnt (ps.map (·.2)) x) s0 k).2=v;by_cases d:v=m.lo.toNat
     ·rw [if_pos d,if_pos (by omega)];omega
     ·rw [if_neg d,if_neg (by omega)];omega
    rw [er,mv];generalize aS (bf (ps.map (·.2))) (bg (ps.map (·.2))) g (cnt (ps.map (·.2)) x) s0 k=r at *;refine (zr rfl (zr rfl (fk (s4 _ _ hg) (wV (OT uA)) (zr rfl ?_))));rw [c];refine ⟨rfl,zr rfl (bP (by simp [oG,oV]) ?_)⟩;refine (zr rfl ⟨.inl ⟨rfl,_,aU.of h4⟩,zr rfl ⟨lc,aT rfl rfl ⟨h4,by rw [zA];omega,?_⟩⟩⟩);have s5:aG H (upd H4 lc (.lst (List.map V.int r.1++[V.int ((cnt (ps.map (·.2)) x + k:Nat):Int)]))):=aG.put iA s4;have h5:upd H4 lc (.lst (List.map V.int r.1++[V.int ((cnt (ps.map (·.2)) x + k:Nat):Int)])) lc=some (.lst (List.map V.int (r.1++[((cnt (ps.map (·.2)) x + k:Nat):Int)]))):=by rw [xq,zE];rfl
    generalize upd H4 lc _=H5 at s5 h5 ⊢;exact (zr rfl (zr rfl (zr rfl (ex8 b _ _ aa tr tm ps m ⟨rfl,hb.same s5,hm,⟨⟨_,rfl⟩,s5,h5⟩⟩))))
   ·have er:=nJ c;rw [er];generalize aS (bf (ps.map (·.2))) (bg (ps.map (·.2))) g (cnt (ps.map (·.2)) x) s0 k=r at *;refine (zr rfl (zr rfl (fk (s4 _ _ hg) (wV (OT uA)) (zr rfl ?_))));cases e:g (cnt (ps.map (·.2)) x + k) with
    | none=>exact ⟨rfl,zr rfl (aQ rfl ⟨⟨_,rfl⟩,s4,h4⟩)⟩
    | some v=>
     rw [e] at c;refine ⟨rfl,zr rfl (aQ (decide_eq_false λzz=>c ?_) ⟨⟨_,rfl⟩,s4,h4⟩)⟩;have this:(v:Int)=(r.2:Int):=V.int.inj zz;congr 1;omega
  ·rintro σ H4 ⟨⟨o9,rfl⟩,s4,h4⟩;rw [eN] at h4;exact (zr rfl (q lc H4 s4 iA h4))
theorem Jw:aZ P w K mg base cB 4 a.A5 a.Cs ["book", "letter"] (U3 a.Aa):=by
 have J7:=IA P w base T B;have Ju:=Lh P w base T B;refine T.BE.ok FV (λvs H Q E h=>?_) (λbW A outer s H vs Q E hr h=>?_)
 ·obtain ⟨_,_,_,_,_,_,_,_,_,_,_,_,rfl,_⟩:=h;rfl
 ·have nd:=FV.nd;have hu:=hr.units;obtain ⟨b,lt,s0,w0,x,z,aa,tr,tm,ps,e,ns,rfl,hb,ud,vF,gd,hL,ne,wk,le,hn,q⟩:=h;refine cz ?_;intro Y
  let B0:Bk Y ((aq qR).drop 3):=⟨_,(xw (wN (wL (wg (xu (xv (pv 3) (xv (wG Ju (hr.mono (by decide)) rfl T.IO T.I0 T.Ji .nil aC (xu (xv (pv 0) (xv (pv 1) (xv (pv 4) wH rfl) rfl) rfl))) wH rfl) rfl))))))⟩
  let B1:Bk Y ((aq qR).drop 2):=⟨_,(xw (wJ (nO (ix:=4) nd rfl rfl (own:=["number", "giver"]) (caps:=[3]) rfl (show aV ["number", "giver"] [3] ["book", "letter", "givers", "one", "rest"] (aB qR) _ from L2.gU) (vK rfl rfl T.dc (xu (xv (pv 2) wH rfl))) (λ_ _ _ _=>(wX (n:=2) rfl rfl (wD (wE (i:=0) (show List.Nodup (["number", "giver", "one"]:List Str) from by decide +kernel) rfl rfl) (wD (wE (i:=1) (show List.Nodup (["number", "giver", "one"]:List Str) from by decide +kernel) rfl rfl) wW)))) (λ_ _ _ _=>qU) (λ_ _ _ _=>(jF (wM (ja rfl) (pv 0) (pv 2) rfl) eY (pv 1)))) B0.bl))⟩
  let B2:Bk Y ((aq qR).drop 1):=⟨_,(xw (wJ (wI (i:=3) nd rfl rfl (wG Ju (hr.mono (by decide)) rfl T.IO T.I0 T.Ji .nil aC (xu (xv (pv 0) (xv (pv 1) (xv (pv 2) wH rfl) rfl) rfl)))) B1.bl))⟩
  refine ⟨_,(xw (wJ (wI (i:=2) nd rfl rfl (wG J7 (hr.mono (by decide)) rfl T.JH T.JL T.JP .nil aC (xu (xv (pv 0) (xv (pv 1) wH rfl) rfl)))) B2.bl)),?_⟩;have line:3010<=sizeLine:=by rw [sizeLine_eq];decide
  have OH:=gd.len;refine (zr rfl (zr rfl (Rq b lt s0 w0 x z aa tr tm ps ⟨rfl,hb,ud,vF,gd,hL,ne,λlg sp tot S H1 s1 fg hg se=>?_⟩)));obtain ⟨p1,p2,p3⟩:=tO gd hL.2.1 hL.2.2.1 ne wk le hn se.so se.nt se.nd se.cl se.h0 se.hg;refine (zr rfl (zr rfl (zr rfl (YL b lt lg s0 w0 x z aa tr tm ps _ ⟨rfl,hb.same s1,by omega,gd,hL.same s1,hg,λi v _ h=>uB i v h,λl1 H2 s2 f1 h2=>?_⟩))));generalize eC1:(aS (bf (ps.map (·.2))) (bg (ps.map (·.2))) (cu (ps.map (·.2)) sp) (cnt (ps.map (·.2)) x) s0 (cnt (ps.map (·.2)) z - cnt (ps.map (·.2)) x)).1=C1 at *;have hg2:=s2 _ _ hg;have Oz:=s1.trans s2;refine (zr rfl ⟨lg,rfl,⟨_,aU.of hg2⟩,?_⟩);refine O3 (K:=K) (a:=lg) (xs:=OU ps.length (cu (ps.map (·.2)) sp)) (λi τ acc H5=>(∃ t0 t1,τ=[t0,t1,some (.ref l1)])/\acc=OU i (cJ (cu (ps.map (·.2)) sp) C1)/\aG H2 H5) ⟨⟨_,_,rfl⟩,rfl,aG.refl _⟩ (by rw [jM];omega) ?_ ?_ ?_
  ·rintro i τ acc H5 ⟨⟨t0,t1,rfl⟩,rfl,sm⟩;exact ⟨by rw [jM];exact zD _,aU.of (sm _ _ hg2)⟩
  ·rintro i v k τ acc H5 C hx hk ⟨⟨t0,t1,rfl⟩,rfl,sm⟩ hC;have hi:i < ps.length:=by have:=(zC.mp hx).1;rwa [jM] at this
   obtain rfl:oG (cu (ps.map (·.2)) sp i)=v:=by rw [OT hi] at hx;exact Option.some.inj hx
   have s5:=sm.trans (xx (o:=HO.tup [V.int (i:Int),oG (cu (ps.map (·.2)) sp i)]) hk);refine (R3 xq ?_);refine (zr rfl (zr rfl ⟨l1,zr rfl ⟨.inl (aU.of (s5 _ _ h2)),rfl,?_,zr rfl ?_⟩⟩))
   ·rw [yM];intro y hy;obtain ⟨n,_,rfl⟩:=zK.mp hy;rfl
   have ein:WL (.int (i:Int)) (List.map V.int C1)=decide ((i:Int)∈C1):=by
    rw [xB,decide_eq_true_eq];unfold WL;rw [List.any_eq_true];constructor
    ·rintro ⟨y,hy,h⟩;obtain ⟨n,VY,rfl⟩:=zK.mp hy;rw [jQ] at h;have:=of_decide_eq_true h;rw [<-this];exact VY
    ·intro h;exact ⟨_,zK.mpr ⟨_,h,rfl⟩,by rw [jQ];exact decide_eq_true rfl⟩
   by_cases c:(i:Int)∈C1
   ·refine bP (by show WL _ _=true;rw [ein];exact decide_eq_true c) ?_;exact hC _ _ _ ⟨⟨_,_,rfl⟩,by rw [oM,show oG (cJ (cu (ps.map (·.2)) sp) C1 i)=V.bL from by unfold cJ;rw [if_pos c];rfl],s5⟩
   ·refine aQ (by show WL _ _=false;rw [ein];exact decide_eq_false c) ?_;exact (zr rfl (hC _ _ _ ⟨⟨_,_,rfl⟩,by rw [oM,show cJ (cu (ps.map (·.2)) sp) C1 i=cu (ps.map (·.2)) sp i from by unfold cJ;rw [if_neg c]],s5⟩))
  ·rintro τ acc H5 ⟨⟨t0,t1,rfl⟩,rfl,sm⟩ lc iA;rw [jM];have s6:=sm.trans (xx (o:=HO.lst (OU ps.length (cJ (cu (ps.map (·.2)) sp) C1))) iA);have h6:upd H5 lc (HO.lst (OU ps.length (cJ (cu (ps.map (·.2)) sp) C1))) lc=some (.lst (OU ps.length (cJ (cu (ps.map (·.2)) sp) C1))):=xq;generalize upd H5 lc _=H6 at s6 h6 ⊢;have XI:=Oz.trans s6;refine (zr rfl (zr rfl (zr rfl (zr rfl (YL b lt lc s0 w0 x z aa tr tm ps _ ⟨rfl,hb.same XI,by omega,gd,hL.same XI,h6,?_,λl2 H7 s7 f2 h7=>?_⟩)))))
   ·intro i v _ h;unfold cJ at h;split at h
    ·cases h
    ·exact uB i v h
   refine ⟨by show 2<=sizeLine;omega,λt ht=>?_⟩;have s8:=s7.trans (xx (o:=HO.tup [V.ref l1,V.ref l2]) ht);have WT:=s8 _ _ (s6 _ _ h2);refine q t l1 l2 _ _ _ (XI.trans s8) xq ⟨?_,s1.free f1,XI.free f2,WT,?_,p1,p2,p3⟩
   ·intro e;rw [<-e,s6 _ _ h2] at f2;cases f2
   ·exact xx ht _ _ h7
theorem Mv:aZ P w K mg base cB 6 a.DJ a.Ex ["book", "letter"] (Sg a.tP dN):=by
 have Hn:=Iy P w base T B;have CF:=Ef P w base T B;have D7:=HI P w base T B;have K6:=Jw P w base T B;refine T.D9.ok Kd (λvs H Q E h=>?_) (λbW A outer s H vs Q E hr h=>?_)
 ·obtain ⟨_,_,_,_,_,_,_,_,_,_,rfl,_⟩:=h;rfl
 ·have nd:=Kd.nd;have hu:=hr.units;obtain ⟨b,lt,s0,w0,x0,z0,aa,tr,tm,ps,rfl,hb,ud,vF,PJ,gd,hL,mt,q⟩:=h;refine cz ?_;intro Y
  let B0:Bk Y ((aq qx).drop 5):=⟨_,(xw (wJ (wu (wG K6 (hr.mono (by decide)) rfl T.Kt T.KB T.KK .nil aC (xu (xv (pv 0) (xv (pv 1) wH rfl) rfl))) (wX (n:=2) rfl rfl (wD (wE (i:=9) nd rfl rfl) (wD (wE (i:=10) nd rfl rfl) wW)))) (wN (wL (wg (xu (xv kL (xv (pv 9) (xv (pv 10) wH rfl) rfl) rfl)))))))⟩
  let B1:Bk Y (nb (nb (aq qx) 4) 1):=⟨_,(xw (wN (wL (wg (xu (xv kL (xv (pv 7) (xv (wG CF (hr.mono (by decide)) rfl T.De T.Df T.Dh .nil aC (xu (xv (pv 8) (xv (pv 2) (xv (pv 3) wH rfl) rfl) rfl))) wH rfl) rfl) rfl))))))⟩
  let B2:Bk Y (nb (aq qx) 4):=⟨_,(xw (wJ (wI (i:=8) nd rfl rfl (wG Hn (hr.mono (by decide)) rfl T.Kf T.Kh T.Kj .nil aC (xu (xv (pv 0) (xv (pv 7) wH rfl) rfl)))) (wN (wa (i7 (kM (wG D7 (hr.mono (by decide)) rfl T.EJ T.EK T.EM .nil aC (xu (xv (pv 8) (xv (pv 1) wH rfl) rfl))))) B1.ps wQ))))⟩
  let B3:Bk Y ((aq qx).drop 3):=⟨_,(xw (wJ (wa (wM cY (pv 2) (pv 4) (aM _)) (xw (wN (wL (wg (xu (xv kL (xv (wc qP) (xv (wc qP) wH rfl) rfl) rfl)))))) wQ) (wJ (qG PassesOwn.never rfl (wn rfl (pv 6)) (wE (i:=7) nd rfl rfl) B2.ps) B0.bl)))⟩
  let B4:Bk Y (nb (aq qx) 2):=⟨_,(xw (wN (wL (wg (xu (xv kL (xv (wG CF (hr.mono (by decide)) rfl T.De T.Df T.Dh .nil aC (xu (xv (pv 0) (xv (pv 2) (xv (pv 3) wH rfl) rfl) rfl))) wH rfl) rfl))))))⟩
  let B5:Bk Y ((aq qx).drop 1):=⟨_,(xw (wJ (wI (i:=6) nd rfl rfl (wG D7 (hr.mono (by decide)) rfl T.EJ T.EK T.EM .nil aC (xu (xv (pv 0) (xv (pv 1) wH rfl) rfl)))) (wJ (wa (i7 (kM (pv 6))) B4.ps wQ) B3.bl)))⟩
  refine ⟨_,(xw (wJ (wu (pv 1) (wX (n:=4) rfl rfl (wD (wE (i:=2) nd rfl rfl) (wD (wE (i:=3) nd rfl rfl) (wD (wE (i:=4) nd rfl rfl) (wD (wE (i:=5) nd rfl rfl) wW)))))) B5.bl)),?_⟩;have line:3010<=sizeLine:=by rw [sizeLine_eq];decide
  have OH:=gd.len;have QY:(ps.map (·.2)).length=ps.length:=zA ..;refine ⟨_,rfl,lt,_,rfl,bS.of hL.1,rfl,_,_,rfl,_,_,rfl,_,_,rfl,_,_,rfl,rfl,?_⟩;refine ⟨_,rfl,_,rfl,b,lt,s0,w0,x0,z0,aa,tr,tm,ps,rfl,hb,by omega,gd,hL,λno H1 s1=>?_,λe l ns H1 fe le fl s1 h1 nl wk=>?_⟩
  ·refine ⟨_,rfl,_,rfl,bP rfl ⟨_,rfl,_,rfl,_,rfl,b,s0,x0,aa,tr,tm,ps,rfl,hL.2.1,hb.same s1,by omega,gd,λl H2 fl s2 Rc=>⟨by show 2<=sizeLine;omega,λt ht=>?_⟩⟩⟩;have s3:=(s1.trans s2).trans (xx (o:=HO.tup [V.str "none", V.ref l]) ht);exact q t _ (λx u _ e=>s3 _ _ e) (L2.MT.same mt s3) (.inl ⟨no,l,xq,s1.free fl,xx ht _ _ Rc⟩)
  have lQ:=hb.same s1;have QV:=L2.MT.same mt s1;have yes:aY (fwd (ps.map (·.2)) (aE s0 x0) w0) z0=true:=aL.mpr ⟨e,fe,le⟩;have xz:x0<=z0:=by have:=ir wk;omega
  refine ⟨_,rfl,_,rfl,aQ rfl ⟨_,rfl,_,rfl,rfl,_,rfl,?_⟩⟩;by_cases sw:s0=w0
  ·refine bP (by rw [sw];exact decide_eq_true rfl) ?_;refine ⟨by show 0<=sizeLine;omega,λl1 hl1=>⟨by show 0<=sizeLine;omega,λl2 Rc=>⟨by show 3<=sizeLine;omega,λt ht=>?_⟩⟩⟩;have k1:=xx (o:=HO.lst []) hl1;have k2:=xx (o:=HO.lst []) Rc;have k3:=xx (o:=HO.tup [V.str "two", V.ref l1,V.ref l2]) ht;have s4:=s1.trans (k1.trans (k2.trans k3));refine q t _ (λx u _ e=>s4 _ _ e) (L2.MT.same mt s4) (.inr (.inr ⟨l1,l2,[],[],xq,Qm sw xz ?_ (s1.free hl1) ((s1.trans k1).free Rc) (k3 _ _ (k2 _ _ xq)) (k3 _ _ xq)⟩));intro z;rw [<-z,xq] at Rc;cases Rc
  ·refine aQ (decide_eq_false λz=>sw (by have:=V.int.inj z;omega)) ?_;refine ⟨_,rfl,l,rfl,⟨_,aU.of h1⟩,?_⟩;refine (let W18:IV:=λi σ H5=>(∃ o7 o8,σ=[some (.ref b),some (.ref lt),some (.int (s0:Int)),some (.int x0),some (.int (w0:Int)),some (.int z0),some (.ref l),o7,o8,none,none])/\cL a.tP H1 H5/\MT a.tP dN kN H5/\∀ n:Nat,(n:Int)∈ns.take i->aY (fwd ((ps.map (·.2)).eraseIdx n) (aE s0 x0) w0) z0=true;qM (K:=K) (a:=l) (xs:=List.map V.int ns) W18 ⟨⟨_,_,rfl⟩,cL.refl _ _,QV,λn h=>nomatch h⟩ (λi σ H5 _ h=>MT.seq QV h.2.1 (aU.of h1)) ?_ ?_)
   ·rintro i v σ H5 hv ⟨⟨o7,o8,rfl⟩,b5,WJ,Ws⟩;obtain ⟨n,hn,rfl⟩:=wY hv;obtain ⟨k,m,rfl,hm⟩:=lD wk n (zB hn);have hk:k < ps.length:=by have:=(zC.mp hm).1;rwa [QY] at this
    have t5:=MT.jj QV b5;have hb5:=lQ.br t5;refine ⟨_,rfl,_,rfl,b,k,aa,tr,tm,ps,rfl,hb5,hk,ud,vF,PJ,gd,WJ,λb' iY eO PM H6 b6 X5 Rh e6=>?_⟩;have gd6:Good aa.length (PM.map (·.2)):=by rw [e6];exact gd.sub (yG _ _)
    have hL1:=hL.same s1;have hL6:cQ H6 lt aa.length s0 w0 x0 z0:=⟨(MT.jj WJ b6) _ _ (t5 _ _ hL1.1),hL.2⟩;have b16:cL a.tP H1 H6:=b5.trans b6;refine ⟨_,rfl,_,rfl,b',lt,s0,w0,x0,z0,aa,iY,eO,PM,rfl,Rh,by omega,gd6,hL6,λno H7 s7=>?_,λe2 l2 ns2 H7 fe2 le2 _ s7 _ _ _=>?_⟩
    ·refine ⟨_,rfl,bP rfl ⟨_,rfl,_,rfl,_,rfl,_,rfl,b',s0,x0,aa,iY,eO,PM,rfl,hL.2.1,Rh.same s7,by omega,gd6,λl3 H8 f3 s8 h8=>⟨by show 3<=sizeLine;omega,λt ht=>?_⟩⟩⟩;have k3:=xx (o:=HO.tup [V.str "one", V.int (k:Int),V.ref l3]) ht;have ZU:=(s7.trans s8).trans k3;have bb:cL a.tP H _:=λx u n e=>ZU _ _ (b16 x u n (s1 _ _ e));rw [e6] at no h8;exact q t _ bb (L2.MT.same X5 ZU) (.inr (.inl ⟨yes,k,l3,by rw [QY];exact hk,no,xq,s1.free (MT.free X5 b16 (s7.free f3)),k3 _ _ h8⟩))
    ·refine ⟨_,rfl,aQ rfl ⟨⟨_,_,rfl⟩,λx u n e=>s7 _ _ (b16 x u n e),L2.MT.same X5 s7,λn VY=>?_⟩⟩;rw [xX,hn] at VY;rcases zW.mp VY with h | h
     ·exact Ws n h
     ·have:(n:Int)=(k:Int):=by simpa using h
      obtain rfl:n=k:=by omega
      rw [<-e6];exact aL.mpr ⟨e2,fe2,le2⟩
   ·rintro σ H5 ⟨⟨o7,o8,rfl⟩,b5,WJ,Ws⟩;rw [zA,zq] at Ws;have t5:=MT.jj QV b5;have hb5:=lQ.br t5;have hL1:=hL.same s1;have hL5:cQ H5 lt aa.length s0 w0 x0 z0:=⟨t5 _ _ hL1.1,hL.2⟩;refine ⟨_,rfl,_,rfl,b,lt,s0,w0,x0,z0,aa,tr,tm,ps,e,ns,rfl,hb5,ud,vF,gd,hL5,sw,wk,le,Ws,λt l1 l2 c1 c2 H6 s6 ht pr=>?_⟩;refine ⟨t,_,rfl,bS.of ht,rfl,_,_,rfl,_,_,rfl,rfl,?_⟩;refine ⟨_,rfl,_,rfl,by show 3<=sizeLine;omega,λt2 mw=>?_⟩;have k3:=xx (o:=HO.tup [V.str "two", V.ref l1,V.ref l2]) mw;have s7:=s6.trans k3;exact q t2 _ (λx u n e=>s7 _ _ (b5 x u n (s1 _ _ e))) (L2.MT.same WJ s7) (.inr (.inr ⟨l1,l2,c1,c2,xq,(pr.same k3).to λl h=>s1.free (MT.free WJ b5 h)⟩))
theorem JA:aZ P w K mg base cB 1 a.A9 a.Cw ["_law_book_here", "_law_sender", "_law_since"] (Pq):=by
 refine T.BI.ok FZ (λvs H Q E h=>?_) (λbW A outer s H vs Q E hr h=>?_)
 ·obtain ⟨b,k,x,_,_,_,_,rfl,_⟩:=h;rfl
 ·have nd:=FZ.nd;have hu:=hr.units;obtain ⟨b,k,x,aa,tr,tm,ps,rfl,hk,hb,hn,gd,q⟩:=h;refine cz ?_;intro Y
  let B0:Bk Y (nb (nb (aq qh) 2) 0):=⟨_,(xw (wN (wa (PW.pt (eV (i7 (iz (wO (wS rfl) (pv 3) (pv 8) (λ_ _=>rfl)))) (eV (wM nV (wO (wS rfl) (pv 3) (pv 8) (λ_ _=>rfl)) (pv 6) (aM _)) (dB (i7 (kM (wO (wS rfl) (pv 3) (pv 9) (λ_ _=>rfl)))))))) (xw (wN (wu (pv 6) (kK (pv 3) (pv 9) qq)))) wQ)))⟩
  let B1:Bk Y (nb (aq qh) 2):=⟨_,(xw (wN (qG PassesOwn.never rfl (wn rfl (wc (xu (xv (wg (xu (xv (pv 4) (xv (pv 5) wH rfl) rfl))) (xv (wg (xu (xv (pv 5) (xv (pv 4) wH rfl) rfl))) wH rfl) rfl)))) (wX (n:=2) rfl rfl (wD (wE (i:=8) nd rfl rfl) (wD (wE (i:=9) nd rfl rfl) wW))) B0.ps)))⟩
  let B2:Bk Y ((aq qh).drop 2):=⟨_,(xw (wJ (qG PassesOwn.never rfl (fF rfl (wO (wT rfl) (pv 0) xy (λ_ _=>rfl))) (wX (n:=4) rfl rfl (wD (wE (i:=4) nd rfl rfl) (wD (wE (i:=5) nd rfl rfl) (wD (wE (i:=6) nd rfl rfl) (wD (wE (i:=7) nd rfl rfl) wW))))) B1.ps) (wN (wL (pv 3)))))⟩
  refine ⟨_,(xw (wJ (wI (i:=3) nd rfl rfl (wK SY (wc (xu (xv eY wH rfl))) (wP (wR rfl) (by rfl) T.cH PySem.boot_len (xu (xv (wO (wT rfl) (pv 0) xy (λ_ _=>rfl)) wH rfl))))) (wJ (wu (pv 2) (kK (pv 3) (pv 1) qq)) B2.bl))),?_⟩;have line:=cP;refine ⟨by show 1<=sizeLine;omega,λl0 V2=>?_⟩;have V6:=hb.same (xx (o:=HO.lst [V.bL]) V2);refine (zr rfl (cT V6.book rfl ⟨tr,zr rfl ⟨.inr (bS.of V6.aa),l0,aT rfl rfl ⟨xq,by omega,by rw [zA];omega,by rw [zA];show 1 * aa.length<=sizeLine;omega,λl hl=>?_⟩⟩⟩));have ji:=(xx (o:=HO.lst [V.bL]) V2).trans (xx (o:=HO.lst (List.replicate (((aa.map V.int).length:Int)).toNat [V.bL]).flatten) hl);have er:(List.replicate (((aa.map V.int).length:Int)).toNat [V.bL]).flatten=(rep aa.length (λ_=>none)).map oV:=by
   rw [zk,zA];unfold rep;rw [zo];generalize aa.length=n;induction n with
   | zero=>rfl
   | succ n ih=>rw [yp,xV,ih,List.range_succ_eq_map,zc,zo];rfl
  have V3:H l=none:=(xx (o:=HO.lst [V.bL]) V2).free hl;refine (zr rfl (zr rfl (zr rfl ⟨l,_,_,k,rfl,rfl,xq,eG (by rw [er,zA,qZ];exact hk),?_⟩)));have e1:((List.replicate (((aa.map V.int).length:Int)).toNat [V.bL]).flatten).set k (.int x)=(rep aa.length (aE k x)).map oV:=by
   rw [er];show _=(rep aa.length (put (λ_=>none) k (some x))).map oV;rw [<-iw hk,xf];rfl
  rw [e1];have iP:aG H (upd (upd (upd H l0 (HO.lst [V.bL])) l (HO.lst (List.replicate (((aa.map V.int).length:Int)).toNat [V.bL]).flatten)) l (HO.lst ((rep aa.length (aE k x)).map oV))):=aG.put V3 ji;have lP:=hb.same iP;refine (zr rfl (cT lP.book rfl ⟨tm,rfl,⟨_,bS.of lP.meets⟩,?_⟩));refine (let W19:IV:=λi σ H4=>(∃ v4 v5 v6 v7 v8 v9,σ=[some (.ref b),some (.int k),some (.int x),some (.ref l),v4,v5,v6,v7,v8,v9])/\aG H H4/\H4 l=some (.lst ((rep aa.length (fwd ((ps.map (·.2)).take i) (aE k x))).map oV));Wd (K:=K) (a:=tm) (xs:=ps.map λa=>V.ref a.1) W19)
   ?_ (λi σ H4 _ h4=>bS.of ((hb.same h4.2.1).meets)) ?_ ?_
  ·exact ⟨⟨_,_,_,_,_,_,rfl⟩,iP,xq⟩
  ·rintro i y σ H4 hy ⟨⟨v4,v5,v6,v7,v8,v9,rfl⟩,lH,h4⟩;obtain ⟨r,p8,rfl⟩:=wY hy;have hm:(ps.map (·.2))[i]?=some r.2:=by rw [zS,p8];rfl
   have rm:=zB p8;obtain ⟨a1,a2,a3,a4,a5,_⟩:=gd.at rm;have cy:=(hb.same lH).rows r rm;have z1:(r.2.lo.toNat:Int)=r.2.lo:=yi a1;have z2:(r.2.hi.toNat:Int)=r.2.hi:=yi (by omega);have gl:r.2.lo.toNat < aa.length:=by omega
   have ol:r.2.hi.toNat < aa.length:=by omega
   refine (pS cy ?_);refine (zr rfl (zr rfl ⟨by show 2<=sizeLine;omega,λt1 Rb=>(zr rfl (zr rfl ⟨by show 2<=sizeLine;omega,λt2 mw=>⟨by show 2<=sizeLine;omega,λll hll=>⟨ll,rfl,⟨_,aU.of xq⟩,?_⟩⟩⟩))⟩));have Uy:=((xx (o:=HO.tup [.int r.2.lo,.int r.2.hi]) Rb).trans (xx (o:=HO.tup [.int r.2.hi,.int r.2.lo]) mw)).trans (xx (o:=HO.lst [.ref t1,.ref t2]) hll);have h5:=Uy _ _ h4;have q1:=(xx (o:=HO.lst [.ref t1,.ref t2]) hll) t1 _ ((xx (o:=HO.tup [.int r.2.hi,.int r.2.lo]) mw) t1 _ (xq (H:=H4) (a:=t1) (o:=HO.tup [.int r.2.lo,.int r.2.hi])));have q2:=(xx (o:=HO.lst [.ref t1,.ref t2]) hll) t2 _ (xq (a:=t2) (o:=HO.tup [.int r.2.hi,.int r.2.lo]));have nll:ll≠l:=(wC ((xx (o:=HO.tup [.int r.2.hi,.int r.2.lo]) mw) _ _ ((xx (o:=HO.tup [.int r.2.lo,.int r.2.hi]) Rb) _ _ h4)) hll).symm;have n1l:t1≠l:=(wC h4 Rb).symm;have n2l:t2≠l:=(wC ((xx (o:=HO.tup [.int r.2.lo,.int r.2.hi]) Rb) _ _ h4) mw).symm;refine qM (K:=K) (a:=ll) (xs:=[V.ref t1,V.ref t2]) (λj σ H6=>(∃ v8 v9,σ=[some (.ref b),some (.int k),some (.int x),some (.ref l),some (.int r.2.lo),some (.int r.2.hi),some (.int r.2.t),some (.int r.2.m),v8,v9])/\aG H H6 /\
     H6 l=some (.lst ((rep aa.length (((two r.2).take j).foldl aK (fwd ((ps.map (·.2)).take i) (aE k x)))).map oV))/\H6 ll=some (.lst [.ref t1,.ref t2])/\H6 t1=some (.tup [.int r.2.lo,.int r.2.hi])/\H6 t2=some (.tup [.int r.2.hi,.int r.2.lo]))
    ⟨⟨_,_,rfl⟩,lH.trans Uy,h5,xq,q1,q2⟩ (λj σ H6 _ h6=>aU.of h6.2.2.2.1) ?_ ?_
   ·rintro j y σ H6 hy ⟨⟨v8,v9,rfl⟩,vd,h6,Wb,UJ,UI⟩;obtain rfl | rfl:j=0\/j=1:=by
     have:j < 2:=(zC.mp hy).1;omega
    ·cases hy;generalize ef:((two r.2).take 0).foldl aK (fwd ((ps.map (·.2)).take i) (aE k x))=f at h6;have fo:((two r.2).take (0 + 1)).foldl aK (fwd ((ps.map (·.2)).take i) (aE k x))=aK f ⟨r.2.lo.toNat,r.2.hi.toNat,r.2.t⟩:=by
      rw [we (r:=⟨r.2.lo.toNat,r.2.hi.toNat,r.2.t⟩) rfl,yP,ef];rfl
     have hg:gb ((rep aa.length f).map oV) r.2.lo=some (oV (f r.2.lo.toNat)):=by rw [<-z1];exact wV (qu gl)
     have ho:gb ((rep aa.length f).map oV) r.2.hi=some (oV (f r.2.hi.toNat)):=by rw [<-z2];exact wV (qu ol)
     refine (R3 UJ ?_);have no:∀ (c:¬ (f r.2.hi.toNat=none/\below (f r.2.lo.toNat) r.2.t=true)),H6 l=some (.lst ((rep aa.length (((two r.2).take (0 + 1)).foldl aK (fwd ((ps.map (·.2)).take i) (aE k x)))).map oV)):=λc=>by
      rw [fo];unfold aK;rw [if_neg c];exact h6
     refine (zr rfl (zr rfl (fk h6 hg (zr rfl ?_))));cases V4:f r.2.lo.toNat with
     | none=>
      exact aQ rfl (aQ rfl ⟨⟨_,_,rfl⟩,vd,no (λz=>by rw [V4] at z;cases z.2),Wb,UJ,UI⟩)
     | some a=>
      rw [V4] at hg;refine bP rfl (zr rfl (zr rfl (fk h6 hg (zr rfl (aT rfl rfl (zr rfl (dP (λc=>?_) (λc=>?_))))))))
      ·refine (zr rfl (zr rfl (fk h6 ho (zr rfl (dP (λc2=>?_) (λc2=>?_))))))
       ·refine (zr rfl (zr rfl (zr rfl ⟨l,_,_,r.2.hi.toNat,rfl,rfl,h6,by rw [<-z2];exact eG (by rw [zA,qZ];exact ol),⟨_,_,rfl⟩,aG.put V3 vd,?_,by rw [wF nll];exact Wb,by rw [wF n1l];exact UJ,by rw [wF n2l];exact UI⟩)));rw [xq,fo];unfold aK;rw [if_pos ⟨fX.mp c2,aJ.mpr ⟨a,V4,c⟩⟩,<- iw ol,xf];rfl
       ·exact ⟨⟨_,_,rfl⟩,vd,no (λz=>c2 (fX.mpr z.1)),Wb,UJ,UI⟩
      ·exact aQ rfl ⟨⟨_,_,rfl⟩,vd,no (λz=>by obtain ⟨w1,w2,w3⟩:=aJ.mp z.2;rw [V4] at w2;cases w2;exact c w3),Wb,UJ,UI⟩
    ·cases hy;generalize ef:((two r.2).take 1).foldl aK (fwd ((ps.map (·.2)).take i) (aE k x))=f at h6;have fo:((two r.2).take (1 + 1)).foldl aK (fwd ((ps.map (·.2)).take i) (aE k x))=aK f ⟨r.2.hi.toNat,r.2.lo.toNat,r.2.t⟩:=by
      rw [we (r:=⟨r.2.hi.toNat,r.2.lo.toNat,r.2.t⟩) rfl,yP,ef];rfl
     have hg:gb ((rep aa.length f).map oV) r.2.hi=some (oV (f r.2.hi.toNat)):=by rw [<-z2];exact wV (qu ol)
     have ho:gb ((rep aa.length f).map oV) r.2.lo=some (oV (f r.2.lo.toNat)):=by rw [<-z1];exact wV (qu gl)
     refine (R3 UI ?_);have no:∀ (c:¬ (f r.2.lo.toNat=none/\below (f r.2.hi.toNat) r.2.t=true)),H6 l=some (.lst ((rep aa.length (((two r.2).take (1 + 1)).foldl aK (fwd ((ps.map (·.2)).take i) (aE k x)))).map oV)):=λc=>by
      rw [fo];unfold aK;rw [if_neg c];exact h6
     refine (zr rfl (zr rfl (fk h6 hg (zr rfl ?_))));cases V4:f r.2.hi.toNat with
     | none=>
      exact aQ rfl (aQ rfl ⟨⟨_,_,rfl⟩,vd,no (λz=>by rw [V4] at z;cases z.2),Wb,UJ,UI⟩)
     | some a=>
      rw [V4] at hg;refine bP rfl (zr rfl (zr rfl (fk h6 hg (zr rfl (aT rfl rfl (zr rfl (dP (λc=>?_) (λc=>?_))))))))
      ·refine (zr rfl (zr rfl (fk h6 ho (zr rfl (dP (λc2=>?_) (λc2=>?_))))))
       ·refine (zr rfl (zr rfl (zr rfl ⟨l,_,_,r.2.lo.toNat,rfl,rfl,h6,by rw [<-z1];exact eG (by rw [zA,qZ];exact gl),⟨_,_,rfl⟩,aG.put V3 vd,?_,by rw [wF nll];exact Wb,by rw [wF n1l];exact UJ,by rw [wF n2l];exact UI⟩)));rw [xq,fo];unfold aK;rw [if_pos ⟨fX.mp c2,aJ.mpr ⟨a,V4,c⟩⟩,<- iw gl,xf];rfl
       ·exact ⟨⟨_,_,rfl⟩,vd,no (λz=>c2 (fX.mpr z.1)),Wb,UJ,UI⟩
      ·exact aQ rfl ⟨⟨_,_,rfl⟩,vd,no (λz=>by obtain ⟨w1,w2,w3⟩:=aJ.mp z.2;rw [V4] at w2;cases w2;exact c w3),Wb,UJ,UI⟩
   ·rintro σ H6 ⟨⟨v8,v9,rfl⟩,vd,h6,Wb,UJ,UI⟩;refine ⟨⟨_,_,_,_,_,_,rfl⟩,vd,?_⟩;rw [h6,we hm];unfold fwd aI;rw [xJ,yP];rfl
  ·rintro σ H4 ⟨⟨v4,v5,v6,v7,v8,v9,rfl⟩,lH,h4⟩;refine (zr rfl (q l _ V3 lH ?_));have e:(ps.map λa=>V.ref a.1).length=(ps.map (·.2)).length:=by simp
   rw [e,zq] at h4;exact h4
theorem Kn:aZ P w K mg base cB 2 a.Bu a.CV ["book", "row"] (Vf):=by
 have Gv:=HH P w base T B;have EA:=Gb P w base T B;have EY:=GH P w base T B;refine T.Ch.ok Gx (λvs H Q E h=>?_) (λbW A outer s H vs Q E hr h=>?_)
 ·obtain ⟨b,la,_,_,_,_,_,rfl,_⟩:=h;rfl
 ·have nd:=Gx.nd;have hu:=hr.units;obtain ⟨b,la,aa,tr,tm,ps,f0,rfl,hb,hn,gd,V0,q⟩:=h;refine cz ?_;intro Y
  let B0:Bk Y (nb (aq DF) 1):=⟨_,(xw (wN (wa (PW.pt (eV (qF (wG Gv (hr.mono (by decide)) rfl T.IN T.IZ T.Jh .nil aC (xu (xv (wO (wS rfl) (pv 1) (pv 4) (λ_ _=>rfl)) (xv (pv 6) wH rfl) rfl)))) (dB (qV (qF (wG EA (hr.mono (by decide)) rfl T.G6 T.G9 T.Hb .nil aC (xu (xv (wO (wS rfl) (pv 2) (pv 5) (λ_ _=>rfl)) (xv (pv 6) wH rfl) rfl)))))))) (xw (wN (wu (pv 6) (kK (pv 2) (pv 5) qq)))) wQ)))⟩
  let B1:Bk Y ((aq DF).drop 1):=⟨_,(xw (wJ (qG PassesOwn.never rfl (wn rfl (wG EY (hr.mono (by decide)) rfl T.IH T.IR T.Jb .nil aC (xu (xv (pv 0) wH rfl)))) (wX (n:=4) rfl rfl (wD (wE (i:=3) nd rfl rfl) (wD (wE (i:=4) nd rfl rfl) (wD (wE (i:=5) nd rfl rfl) (wD (wE (i:=6) nd rfl rfl) wW))))) B0.ps) (wN (wL (pv 2)))))⟩
  refine ⟨_,(xw (wJ (wI (i:=2) nd rfl rfl (qY (ff rfl) (by rfl) T.pL yr (xu (xv (pv 1) wH rfl)))) B1.bl)),?_⟩;have line:=cP;have l60:=gd.len;refine (zr rfl ⟨la,zr rfl ⟨.inl (aU.of V0),λl hl=>?_⟩⟩);have ji:=xx (o:=HO.lst ((rep aa.length f0).map oV)) hl;have h1:(upd H l (HO.lst ((rep aa.length f0).map oV))) l=some (.lst ((rep aa.length f0).map oV)):=xq;generalize upd H l (HO.lst ((rep aa.length f0).map oV))=H1 at ji h1 ⊢;refine (zr rfl (Zr b aa tr tm ps ⟨rfl,hb.same ji,gd,λlw ws H2 UC iP h2 hr ew=>?_⟩));have Wc:=iP _ _ h1;have rE:(ws.map (·.2)).map (·.w)=aI (ps.map (·.2)):=by
   have:=ie (ps.map (·.2));rw [zA] at this;rw [ew,this]
  have lws:ws.length=2 * ps.length:=by
   have:=congrArg List.length rE;rw [zA,zA,kh,zA] at this;exact this
  have nla:la≠l:=wC V0 hl;have nwl:lw≠l:=(wC h1 UC).symm;refine ⟨lw,rfl,⟨_,aU.of h2⟩,?_⟩;refine (let W20:IV:=λi σ H4=>(∃ v3 v4 v5 v6,σ=[some (.ref b),some (.ref la),some (.ref l),v3,v4,v5,v6])/\aG H H4/\H4 l=some (.lst ((rep aa.length (((ws.take i).map (·.2.w)).foldl (cF f0) f0)).map oV))/\(∀ b u,b≠l->H2 b=some u->H4 b=some u);qM (K:=K) (a:=lw) (xs:=(ws.map λa=>V.ref a.1)) W20)
   ?_ ?_ ?_ ?_
  ·exact ⟨⟨_,_,_,_,rfl⟩,ji.trans iP,Wc,λ_ _ _ e=>e⟩
  ·rintro i σ H4 _ ⟨_,_,_,kp⟩;exact aU.of (kp lw _ nwl h2)
  ·rintro i y σ H4 hy ⟨⟨v3,v4,v5,v6,rfl⟩,lH,h4,kp⟩;obtain ⟨r,p8,rfl⟩:=wY hy;have hi:i < ws.length:=(zC.mp p8).1;have rm:r∈ws:=zB p8;have jK:=hr r rm;have nl:r.1≠l:=cZ jK Wc (by intro z;cases z);have cy:=kp r.1 _ nl jK;have wm:r.2.w∈aI (ps.map (·.2)):=by
    rw [<-rE];exact zK.mpr ⟨r.2,zK.mpr ⟨r,rm,rfl⟩,rfl⟩
   obtain ⟨g1,g2,g3,g4,g5⟩:=qa gd wm;have gl:r.2.w.g < aa.length:=by omega
   have ol:r.2.w.o < aa.length:=by omega
   have fold:∀ f:Fn,((ws.take i).map (·.2.w)).foldl (cF f0) f0=f->((ws.take (i + 1)).map (·.2.w)).foldl (cF f0) f0=cF f0 f r.2.w:=λf e=>by
    rw [we p8,zE,yP,e];rfl
   refine (pS cy ?_);generalize ef:((ws.take i).map (·.2.w)).foldl (cF f0) f0=f at h4;have fo:=fold f ef;have hg:((rep aa.length f0).map oV)[r.2.w.g]?=some (oV (f0 r.2.w.g)):=qu gl;have ho:((rep aa.length f).map oV)[r.2.w.o]?=some (oV (f r.2.w.o)):=qu ol;have adn:=lH _ _ V0;refine (zr rfl (zr rfl (fk adn (wV hg) (zr rfl ⟨f0 r.2.w.g,r.2.w.t,rfl,zr rfl (kP (λc=>?_) (λc=>aQ rfl ?_))⟩))))
   ·refine (zr rfl (zr rfl (fk h4 (wV ho) (zr rfl ⟨f r.2.w.o,r.2.w.t,rfl,zr rfl (kP (λc2=>?_) (λc2=>?_))⟩))))
    ·refine (zr rfl (zr rfl (zr rfl ⟨l,_,_,r.2.w.o,rfl,rfl,h4,eG (by rw [zA,qZ];exact ol),⟨_,_,_,_,rfl⟩,aG.put hl lH,?_,λb u nb e=>by rw [wF nb];exact kp b u nb e⟩)));rw [xq,fo];unfold cF;rw [if_pos ⟨c,by simpa using c2⟩,<- iw ol,xf];rfl
    ·refine ⟨⟨_,_,_,_,rfl⟩,lH,?_,kp⟩;rw [fo];unfold cF;rw [if_neg (λz=>by rw [z.2] at c2;cases c2)];exact h4
   ·refine ⟨⟨_,_,_,_,rfl⟩,lH,?_,kp⟩;rw [fo];unfold cF;rw [if_neg (λz=>by rw [z.1] at c;cases c)];exact h4
  ·rintro σ H4 ⟨⟨v3,v4,v5,v6,rfl⟩,lH,h4,kp⟩;refine (zr rfl (q l H4 hl lH ?_));rw [zA,zq] at h4;have ej:OO (aI (ps.map (·.2))) f0=((ws.map (·.2.w)).foldl (cF f0) f0):=by
    unfold OO;rw [<-rE,zo];rfl
   rw [ej];exact h4
theorem Iz:aZ P w K mg base cB 3 a.AL a.BN ["book", "sender", "since"] (Sh):=by
 have D6:=Fp P w base T B;have Ia:=Kn P w base T B;refine T.Bg.ok Fe (λvs H Q E h=>?_) (λbW A outer s H vs Q E hr h=>?_)
 ·obtain ⟨b,k,x,_,_,_,_,rfl,_⟩:=h;rfl
 ·have nd:=Fe.nd;have hu:=hr.units;obtain ⟨b,k,x,aa,tr,tm,ps,rfl,hb,hn,gd,q⟩:=h;refine cz ?_;intro Y
  let B0:Bk Y (nb (aq qk) 2):=⟨_,(xw (wJ (wv (dI zj zd zf wt (pv 3) (xu (xv (pv 4) wH rfl)))) (wN (wI (i:=4) nd rfl rfl (wG Ia (hr.mono (by decide)) rfl T.HJ T.HP T.HV .nil aC (xu (xv (pv 0) (xv (pv 4) wH rfl) rfl)))))))⟩
  let B1:Bk Y ((aq qk).drop 1):=⟨_,(xw (wJ (wI (i:=4) nd rfl rfl (wG Ia (hr.mono (by decide)) rfl T.HJ T.HP T.HV .nil aC (xu (xv (pv 0) (xv (wO (wS rfl) (pv 3) xy (λ_ _=>rfl)) wH rfl) rfl)))) (wJ (gP PassesOwn.never (wM (XU hu) (pv 4) (wO (wS rfl) (pv 3) (SR N9 xy) (λ_ _=>rfl)) (aM _)) B0.ps) (wN (wL (pv 3))))))⟩
  refine ⟨_,(xw (wJ (wI (i:=3) nd rfl rfl (wc (xu (xv (wG D6 (hr.mono (by decide)) rfl T.Gd T.Ge T.Gf .nil aC (xu (xv (pv 0) (xv (pv 1) (xv (pv 2) wH rfl) rfl) rfl))) wH rfl)))) B1.bl)),?_⟩;have line:300000<=sizeLine:=by rw [sizeLine_eq];decide
  have l60:=gd.len;have lw:(aI (ps.map (·.2))).length<=120:=by rw [kh,zA];omega
  have mx:QT (aI (ps.map (·.2))) aa.length (aE k x)<=121000:=by
   refine yC (VH _ _ _) (yC (Nat.mul_le_mul hn (Nat.succ_le_succ lw)) (by decide))
  generalize ews:aI (ps.map (·.2))=ws at lw mx;refine (zr rfl (zr rfl (zr rfl (OY b k x aa tr tm ps ⟨rfl,hb,hn,λl0 H1 V2 ji h1=>?_⟩))));refine ⟨by show 1<=sizeLine;omega,λl hl=>?_⟩;have iP:=ji.trans (xx (o:=HO.lst [V.ref l0]) hl);have V3:H l=none:=ji.free hl;have n0:l0≠l:=wC h1 hl;have h2:=xx (o:=HO.lst [V.ref l0]) hl _ _ h1;have h2l:(upd H1 l (HO.lst [V.ref l0])) l=some (.lst [V.ref l0]):=xq;generalize upd H1 l (HO.lst [V.ref l0])=H2 at iP h2 h2l ⊢;refine (zr rfl (zr rfl (fk h2l rfl (OY b l0 aa tr tm ps _ ⟨rfl,hb.same iP,hn,gd,h2,λlf H3 VZ WA h3=>?_⟩))));refine vf (fun σ H4=>∃ (as:List Addr) (lf:Addr),σ=[some (.ref b),some (.int k),some (.int x),some (.ref l),some (.ref lf)]/\as≠[]/\aG H H4/\H4 l=some (.lst (as.map V.ref)) /\
    (∀ (i:Nat) (a:Addr),as[i]?=some a->H a=none/\a≠l/\H4 a=some (.lst ((rep aa.length (bD ws (aE k x) i)).map oV)))/\(∀ i,i + 1 < as.length->rep aa.length (bD ws (aE k x) (i + 1))≠rep aa.length (bD ws (aE k x) i)) /\
    H lf=none/\lf≠l/\H4 lf=some (.lst ((rep aa.length (bD ws (aE k x) as.length)).map oV))/\as.length + QT ws aa.length (bD ws (aE k x) (as.length - 1))<=QT ws aa.length (aE k x) + 1)
   (λ_ H4=>match H4 l with | some (.lst xs)=>200001 - xs.length | _=>0) ?_ ?_ ?_
  ·refine ⟨[l0],lf,rfl,by simp,iP.trans WA,WA _ _ h2l,λi a h=>?_,λi h=>absurd h (by simp),iP.free VZ,(wC h2l VZ).symm,?_,?_⟩
   ·cases i with
    | zero=>cases h;exact ⟨V2,n0,WA _ _ h2⟩
    | succ i=>cases h
   ·rw [ews] at h3;exact h3
   ·show 1 + QT ws aa.length (aE k x)<=_;omega
  ·rintro σ H4 ⟨as,lf,rfl,ne,lH,h4,Zn,ve,adk,nlf,YF,hmu⟩;obtain ⟨m,em⟩:∃ m,as.length=m + 1:=⟨as.length - 1,by have:=List.length_pos_iff.mpr ne;omega⟩;have la:∃ a,as[m]?=some a:=⟨as[m],zO (by omega)⟩;obtain ⟨a,ha⟩:=la;have V0:=Zn m a ha;have gl:as.getLast?=some a:=by rw [List.getLast?_eq_getElem?,em];exact ha
   have atl:gb (as.map V.ref) (-1)=some (V.ref a):=NU (by rw [List.getLast?_map,gl];rfl);rw [em] at YF hmu;refine (zr rfl (zr rfl (zr rfl (fk h4 atl ⟨lf,a,aT rfl rfl ⟨aU.of YF,aU.of V0.2.2,zr rfl (kP (λc=>?_) (λc=>?_))⟩⟩))))
   ·have c':rep aa.length (bD ws (aE k x) (m + 1))≠rep aa.length (bD ws (aE k x) m):=by simpa using c
    have lt:QT ws aa.length (bD ws (aE k x) (m + 1)) < QT ws aa.length (bD ws (aE k x) m):=by
     have:¬ ∀ i,i < aa.length->bD ws (aE k x) (m + 1) i=bD ws (aE k x) m i:=λh=>c' (SJ.mpr h);obtain ⟨i,hi⟩:=Classical.not_forall.mp this;obtain ⟨hi,ve⟩:=Classical.not_imp.mp hi;exact X4 hi ve
    have ahG:m + 1 + QT ws aa.length (bD ws (aE k x) m)<=QT ws aa.length (aE k x) + 1:=hmu;refine (zr rfl ⟨.inl ⟨rfl,_,aU.of h4⟩,zr rfl ⟨l,aT rfl rfl ⟨h4,by rw [zA];omega,?_⟩⟩⟩);have h5:∀ b u,b≠l->H4 b=some u->(upd H4 l (HO.lst (as.map V.ref++[V.ref lf]))) b=some u:=λb u nb e=>by rw [wF nb];exact e
    have h5l:(upd H4 l (HO.lst (as.map V.ref++[V.ref lf]))) l=some (.lst (as.map V.ref++[V.ref lf])):=xq;have Uy:=aG.put (o:=HO.lst (as.map V.ref++[V.ref lf])) V3 lH;generalize upd H4 l (HO.lst (as.map V.ref++[V.ref lf]))=H5 at h5 h5l Uy ⊢;refine (zr rfl (zr rfl (OY b lf aa tr tm ps _ ⟨rfl,hb.same Uy,hn,gd,h5 _ _ nlf YF,λl6 H6 hl6 vd h6=>?_⟩)));refine ⟨⟨as++[lf],l6,rfl,by simp,Uy.trans vd,by rw [vd _ _ h5l,zE];rfl,λi a' h=>?_,λi h=>?_,Uy.free hl6,(wC h5l hl6).symm,?_,?_⟩,?_⟩
    ·rcases xQ i as.length with li | li
     ·rw [zX li] at h;have z:=Zn i a' h;exact ⟨z.1,z.2.1,vd _ _ (h5 _ _ z.2.1 z.2.2)⟩
     ·have ei:i=as.length:=by
       have:=(zC.mp h).1;rw [zG,zp] at this;omega
      subst ei;rw [zZ (zD _),xF] at h;cases h;rw [em];exact ⟨adk,nlf,vd _ _ (h5 _ _ nlf YF)⟩
    ·rw [zG,zp] at h;rcases xQ (i + 1) as.length with li | li
     ·exact ve i li
     ·have ei:i=m:=by omega
      rw [ei];exact c'
    ·rw [zG,zp,em];rw [ews] at h6;exact h6
    ·rw [zG,zp,em];show m + 1 + 1 + QT ws aa.length (bD ws (aE k x) (m + 1))<=_;omega
    ·rw [vd _ _ h5l,h4];show 200001 - (as.map V.ref++[V.ref lf]).length < 200001 - (as.map V.ref).length;rw [zG,zA,zp];omega
   ·have c':rep aa.length (bD ws (aE k x) (m + 1))=rep aa.length (bD ws (aE k x) m):=by simpa using c
    refine (zr rfl (q l as H4 V3 lH h4 ⟨ne,by omega,λi a h=>?_,?_,?_⟩))
    ·rw [ews];exact ⟨(Zn i a h).1,(Zn i a h).2.2⟩
    ·rw [ews];exact ve
    ·rw [ews,em];exact c'
  ·rintro σ H4 Q1 Q2 hq ⟨x,hx,y,hy,z,hz,p,xs,i,v,e1,e2,e3,e4,a,b,os,ps,e5,e6,e7,e8,j,e9,h⟩;exact ⟨x,hx,y,hy,z,hz,p,xs,i,v,e1,e2,e3,e4,a,b,os,ps,e5,e6,e7,e8,j,e9,hq _ _ h⟩
theorem Jx:aZ P w K mg base cB 2 a.A6 a.Ct ["book", "walker", "time"] (Sj):=by
 have EY:=GH P w base T B;refine T.BF.ok FW (λvs H Q E h=>?_) (λbW A outer s H vs Q E hr h=>?_)
 ·obtain ⟨b,v,n,g,t,_,_,_,_,rfl,_⟩:=h;rfl
 ·have nd:=FW.nd;have hu:=hr.units;obtain ⟨b,v,n,g,t,aa,tr,tm,ps,rfl,hb,gd,lk,q⟩:=h;refine ⟨_,(xw (wJ (qG PassesOwn.never rfl (wn rfl (wG EY (hr.mono (by decide)) rfl T.IH T.IR T.Jb .nil aC (xu (xv (pv 0) wH rfl)))) (wX (n:=4) rfl rfl (wD (wE (i:=3) nd rfl rfl) (wD (wE (i:=4) nd rfl rfl) (wD (wE (i:=5) nd rfl rfl) (wD (wE (i:=6) nd rfl rfl) wW))))) (xw (wN (wa (PW.pt (eV (wM cY (pv 4) (pv 1) (aM _)) (dB (wM cY (pv 6) (pv 2) (aM _))))) (xw (wN (wL (pv 3)))) wQ)))) (wN (wL eY)))),?_⟩;refine (zr rfl (Zr b aa tr tm ps ⟨rfl,hb,gd,λlw ws H2 UC iP h2 hr ew=>?_⟩));have l60:=gd.len;have inn:=VL lk;rw [zA,<- ew] at inn;refine ⟨lw,rfl,⟨_,aU.of h2⟩,?_⟩;refine (let W21:IV:=λi σ H4=>(∃ v3 v4 v5 v6,σ=[some (.ref b),some (.int v),some (.int t),v3,v4,v5,v6])/\H4=H2/\∀ j r,j < i->ws[j]?=some r->r.2≠⟨n,⟨v,g,t⟩⟩;qM (K:=K) (a:=lw) (xs:=(ws.map λa=>V.ref a.1)) W21)
   ⟨⟨_,_,_,_,rfl⟩,rfl,λj r h=>absurd h (yB _)⟩ ?_ ?_ ?_
  ·rintro i σ H4 _ ⟨_,rfl,_⟩;exact aU.of h2
  ·rintro i y σ H4 hy ⟨⟨v3,v4,v5,v6,rfl⟩,rfl,no⟩;obtain ⟨r,p8,rfl⟩:=wY hy;have rm:r∈ws:=zB p8;have cy:=hr r rm;have rl:fO (ps.map (·.2)) r.2.n r.2.w.g r.2.w.o r.2.w.t:=dF (i:=ps.length) (by rw [<-ew];exact zK.mpr ⟨r,rm,rfl⟩);have step:r.2≠⟨n,⟨v,g,t⟩⟩->∀ j r',j < i + 1->ws[j]?=some r'->r'.2≠⟨n,⟨v,g,t⟩⟩:=λne j r' hj e=>by
    rcases xQ j i with l | l
    ·exact no j r' l e
    ·have ej:j=i:=by omega
     rw [ej,p8] at e;cases e;exact ne
   refine (pS cy ?_);refine (zr rfl (zr rfl ⟨rfl,zr rfl (dP (λc=>?_) (λc=>aQ rfl ?_))⟩))
   ·have c1:(r.2.w.g:Int)=v:=V.int.inj c;refine (zr rfl (zr rfl ⟨rfl,zr rfl (dP (λc2=>?_) (λc2=>?_))⟩))
    ·have e1:r.2.w.g=v:=by omega
     have e2:r.2.w.t=t:=V.int.inj c2;rw [e1,e2] at rl;have en:=rl.uniq gd lk;refine (zr rfl ?_);rw [en];exact q _ iP
    ·exact ⟨⟨_,_,_,_,rfl⟩,rfl,step λe=>c2 (by rw [e])⟩
   ·exact ⟨⟨_,_,_,_,rfl⟩,rfl,step λe=>c (by rw [e])⟩
  ·rintro σ H4 ⟨⟨v3,v4,v5,v6,rfl⟩,rfl,no⟩;obtain ⟨r,RO,er⟩:=zK.mp inn;obtain ⟨j,hj⟩:=List.mem_iff_getElem?.mp RO;exact absurd er (no j r (by rw [zA];exact (zC.mp hj).1) hj)
theorem Jz:aZ P w K mg base cB 3 a.A8 a.Cv ["book", "rows", "wish"] (Ss):=by
 have Gs:=HF P w base T B;have K7:=Jx P w base T B;refine T.BH.ok FY (λvs H Q E h=>?_) (λbW A outer s H vs Q E hr h=>?_)
 ·obtain ⟨b,l,w,s,m,a,t,_,_,_,_,_,rfl,_⟩:=h;rfl
 ·have nd:=FY.nd;have hu:=hr.units;obtain ⟨b,l,w,s0,m,a0,t0,aa,tr,tm,ps,as,rfl,hb,gd,hw,m9,hl,las,Zn,nw,q⟩:=h;refine cz ?_;intro Y
  let B0:Bk Y ((nb (aq qz) 2).drop 1):=⟨_,(xw (wJ (wv (dI zj zd zf wt (pv 3) (xu (xv (pv 6) wH rfl)))) (wN (wI (i:=4) nd rfl rfl (wG Gs (hr.mono (by decide)) rfl T.IJ T.IT T.Jd .nil aC (xu (xv (pv 0) (xv (pv 6) (xv (pv 4) wH rfl) rfl) rfl)))))))⟩
  let B1:Bk Y (nb (aq qz) 2):=⟨_,(xw (wJ (wI (i:=6) nd rfl rfl (wG K7 (hr.mono (by decide)) rfl T.Ku T.KC T.KL .nil aC (xu (xv (pv 0) (xv (pv 4) (xv (wO (wS rfl) (pv 5) (pv 4) (λ_ _=>rfl)) wH rfl) rfl) rfl)))) B0.bl))⟩
  refine ⟨_,(xw (wJ (wI (i:=3) nd rfl rfl (wc qP)) (wJ (wI (i:=4) nd rfl rfl (pv 2)) (wJ (qG PassesOwn.never rfl (wn rfl (mJ rfl (pv 1))) (wE (i:=5) nd rfl rfl) B1.ps) (wN (wL (mJ rfl (pv 3)))))))),?_⟩;have line:=cP;refine ⟨za _,λlc iA=>?_⟩;have ji:=xx (o:=HO.lst []) iA;have h1:(upd H lc (HO.lst [])) lc=some (.lst (List.map V.int ([]:List Int).reverse)):=xq;generalize upd H lc (HO.lst [])=H1 at ji h1 ⊢;refine (zr rfl (zr rfl ⟨l,zr rfl ⟨aU.of (ji _ _ hl),λlb WO=>?_⟩⟩));rw [<-xg];have iP:=ji.trans (xx (o:=HO.lst (as.reverse.map V.ref)) WO);have h2:=xx (o:=HO.lst (as.reverse.map V.ref)) WO _ _ h1;have h2b:(upd H1 lb (HO.lst (as.reverse.map V.ref))) lb=some (.lst (as.reverse.map V.ref)):=xq;have nbc:lb≠lc:=(wC h1 WO).symm;generalize upd H1 lb (HO.lst (as.reverse.map V.ref))=H2 at iP h2 h2b ⊢;refine ⟨lb,rfl,⟨_,aU.of h2b⟩,?_⟩;refine qM (K:=K) (a:=lb) (xs:=as.reverse.map V.ref) (λj σ H4=>∃ (v:Nat) (T:Int) (cs:List Int),∃ v5 v6,σ=[some (.ref b),some (.ref l),some (.int w),some (.ref lc),some (.int v),v5,v6]/\v < aa.length/\H4 lc=some (.lst (List.map V.int cs.reverse))/\cs.length=j/\jX (aI (ps.map (·.2))) (aE s0 a0) (m - j) v T /\
    (∀ b u,b≠lc->H2 b=some u->H4 b=some u)/\(∀ A:Int,(A=-1\/∃ n:Nat,∃ m,A=n/\(ps.map (·.2))[n]?=some m/\m.t<=T)->aR (ps.map (·.2)) v T A cs=some (w,t0)))
   ⟨w,t0,[],gJ rfl ⟨hw,h2,rfl,nw,λ_ _ _ e=>e,λA _=>rfl⟩⟩ ?_ ?_ ?_
  ·rintro i σ H4 _ ⟨_,_,_,_,_,_,_,_,_,_,kp,_⟩;exact aU.of (kp lb _ nbc h2b)
  ·rintro j y σ H4 hy ⟨v,T,cs,v5,v6,rfl,hv,h4,lcs,na,kp,wk⟩;obtain ⟨c,hc,rfl⟩:=wY hy;have hj:j < m:=by
    have:=(zC.mp hc).1;rw [yh,las] at this;exact this
   obtain ⟨i,ei⟩:∃ i,m - j=i + 1:=⟨m - j - 1,by omega⟩;rw [ei] at na;have hci:as[i]?=some c:=by
    rw [List.getElem?_reverse (by rw [las];exact hj)] at hc;rw [<-hc,las];congr 1;omega
   have RK:aG H H4:=λb u eb=>kp b u (wC eb iA) (iP b u eb);have hc4:=RK _ _ (Zn i c hci);obtain ⟨x,hx,ho,ht,y,lt,nb⟩:=na.back;obtain ⟨n,Zf⟩:=vh hx;rw [ho,ht] at Zf;obtain ⟨gi,_,gne⟩:=Zf.inside gd;obtain ⟨mm,hmm,mt,_⟩:=id Zf;have hv4:((rep aa.length (bD (aI (ps.map (·.2))) (aE s0 a0) (i + 1))).map oV)[v]?=some (V.int T):=by rw [qu hv,na.1];rfl
   refine (zr rfl (zr rfl (zr rfl (zr rfl (fk hc4 (wV hv4) (ex9 b v n x.g T aa tr tm ps ⟨rfl,hb.same RK,gd,Zf.turn,λH5 Uy=>?_⟩))))));have h5:=Uy _ _ h4;refine (zr rfl ⟨.inl ⟨rfl,_,aU.of h5⟩,zr rfl ⟨lc,aT rfl rfl ⟨h5,by rw [zA,yh];omega,?_⟩⟩⟩);have kp6:∀ b u,b≠lc->H4 b=some u->(upd H5 lc (HO.lst (List.map V.int cs.reverse++[V.int n]))) b=some u:=λb u nb e=>by rw [wF nb];exact Uy _ _ e
   have h6:(upd H5 lc (HO.lst (List.map V.int cs.reverse++[V.int n]))) lc=some (.lst (List.map V.int ((n:Int)::cs).reverse)):=by rw [xq,xU,zE];rfl
   generalize upd H5 lc (HO.lst (List.map V.int cs.reverse++[V.int n]))=H6 at kp6 h6 ⊢;have vd:aG H H6:=λb u eb=>kp6 b u (wC eb iA) (RK b u eb);refine (zr rfl (zr rfl (zr rfl (ex8 b n v aa tr tm ps mm ⟨rfl,hb.same vd,hmm,?_⟩))));rw [Zf.turn.other gd hmm];refine ⟨x.g,y,(n:Int)::cs,gJ rfl ⟨gi,h6,by rw [zU,lcs],by rw [show m - (j + 1)=i by omega];exact nb,λb u nb e=>kp6 b u nb (kp b u nb e),λA hA=>?_⟩⟩;have an:A < n:=by
    rcases hA with rfl | ⟨n',m',rfl,gG,lt'⟩
    ·omega
    ·have:=ux gd.ord.2 gG hmm (by omega);omega
   rw [fq Zf gne lt an];exact wk n (.inr ⟨n,mm,rfl,hmm,by omega⟩)
  ·rintro σ H4 ⟨v,T,cs,v5,v6,rfl,hv,h4,lcs,na,kp,wk⟩;rw [zA,yh,las] at lcs na;rw [xF] at na;have e0:v=s0/\T=a0:=by
    have:=na.1;unfold bD aE at this;split at this
    ·rename_i e;cases this;exact ⟨e,rfl⟩
    ·cases this
   obtain ⟨rfl,rfl⟩:=e0;refine (zr rfl ⟨lc,zr rfl ⟨aU.of h4,λlr Nj=>?_⟩⟩);have e1:(List.map V.int cs.reverse).reverse=List.map V.int cs:=by rw [<-xg,List.reverse_reverse]
   rw [e1];have RK:aG H H4:=λb u eb=>kp b u (wC eb iA) (iP b u eb);exact q lr cs _ (RK.free Nj) (RK.trans (xx Nj)) xq lcs (wk (-1) (.inl rfl))
theorem Mw:aZ P w K mg base cB 5 a.DK a.Ey ["book", "letter"] (Va):=by
 have EA:=Gb P w base T B;have FF:=GJ P w base T B;have J6:=Iz P w base T B;have K9:=Jz P w base T B;refine T.Ea.ok Ke (λvs H Q E h=>?_) (λbW A outer s H vs Q E hr h=>?_)
 ·obtain ⟨b,lt,_,_,_,_,_,_,_,_,rfl,_⟩:=h;rfl
 ·have nd:=Ke.nd;have hu:=hr.units;obtain ⟨b,lt,s0,w0,a0,z0,aa,tr,tm,ps,rfl,hb,hn,gd,hL,qn,qy⟩:=h;refine cz ?_;intro Y
  let B0:Bk Y (nb (nb (aq DH) 3) 0):=⟨_,(xw (wN (wL (wG K9 (hr.mono (by decide)) rfl T.Kw T.KF T.KN .nil aC (xu (xv (pv 0) (xv (vL (vC rfl) (pv 6) (jE xy) (jE (wK wb (pv 7) xy))) (xv (pv 4) wH rfl) rfl) rfl))))))⟩
  let B1:Bk Y (nb (aq DH) 3):=⟨_,(xw (wN (wa (qF (wG EA (hr.mono (by decide)) rfl T.G6 T.G9 T.Hb .nil aC (xu (xv (wO (wS rfl) (pv 8) (pv 4) (λ_ _=>rfl)) (xv (pv 5) wH rfl) rfl)))) B0.ps wQ)))⟩
  let B2:Bk Y ((aq DH).drop 3):=⟨_,(xw (wJ (qG PassesOwn.never rfl (vK rfl rfl T.dc (xu (xv (pv 6) wH rfl))) (wX (n:=2) rfl rfl (wD (wE (i:=7) nd rfl rfl) (wD (wE (i:=8) nd rfl rfl) wW))) B1.ps) (wN (wL eY))))⟩
  let B3:Bk Y ((aq DH).drop 2):=⟨_,(xw (wJ (wI (i:=6) nd rfl rfl (wG J6 (hr.mono (by decide)) rfl T.JG T.JK T.JO .nil aC (xu (xv (pv 0) (xv (pv 2) (xv (pv 3) wH rfl) rfl) rfl)))) B2.bl))⟩
  let B4:Bk Y ((aq DH).drop 1):=⟨_,(xw (wJ (wu (pv 1) (wX (n:=4) rfl rfl (wD (wE (i:=2) nd rfl rfl) (wD (wE (i:=3) nd rfl rfl) (wD (wE (i:=4) nd rfl rfl) (wD (wE (i:=5) nd rfl rfl) wW)))))) B3.bl))⟩
  refine ⟨_,(xw (wJ (wa (qV (qF (wG FF (hr.mono (by decide)) rfl T.HM T.HS T.HY .nil aC (xu (xv (pv 0) (xv (pv 1) wH rfl) rfl))))) (xw (wN (wL eY))) wQ) B4.bl)),?_⟩;have line:=cP;obtain ⟨c8,RN,VT,_⟩:=id hL;refine (zr rfl (zr rfl (OY b (.ref lt) _ aa tr tm ps ⟨rfl,hb,hL.th,zr rfl (aQ (by rw [hL.yes];rfl) ?_)⟩)));refine (zr rfl (pS c8 ?_));refine (zr rfl (zr rfl (zr rfl (OY b s0 a0 aa tr tm ps ⟨rfl,hb,hn,gd,λl as H1 hl ji h1 rws=>?_⟩))));refine (zr rfl ⟨l,rfl,⟨_,aU.of h1⟩,?_⟩);refine (let W22:IV:=λi σ H4=>(∃ v7 v8,σ=[some (.ref b),some (.ref lt),some (.int s0),some (.int a0),some (.int w0),some (.int z0),some (.ref l),v7,v8])/\aG H1 H4/\∀ j,j < i->aY (bD (aI (ps.map (·.2))) (aE s0 a0) j w0) z0=false;Ro (K:=K) (a:=l) (xs:=as.map V.ref) W22)
   ⟨⟨_,_,rfl⟩,aG.refl _,λj h=>absurd h (yB _)⟩ (λi σ H4 _ h4=>aU.of (h4.2.1 _ _ h1)) ?_ ?_
  ·rintro i x q' σ H4 hx hq ⟨⟨v7,v8,rfl⟩,sm,no⟩;obtain ⟨r,hr,rfl⟩:=wY hx;have hi:=(zC.mp hr).1;have iP:=sm.trans (xx (o:=HO.tup [.int i,V.ref r]) hq);have ht:(upd H4 q' (HO.tup [.int i,V.ref r])) q'=some (.tup [.int i,V.ref r]):=xq;generalize upd H4 q' (HO.tup [.int i,V.ref r])=H5 at iP ht ⊢;have cy:=iP _ _ (rws.at' i r hr).2;refine (R3 ht ?_);refine (zr rfl (zr rfl (fk cy (wV (qu VT)) (zr rfl ⟨_,z0,rfl,zr rfl (kP (λc=>?_) (λc=>?_))⟩))))
   ·obtain ⟨T,lT,nw⟩:=S7 c no;have i9:=YK gd VT c no;refine (zr rfl (zr rfl ⟨1,rfl,zr rfl (aT rfl rfl (zr rfl ⟨l,zr rfl ⟨aU.of (iP _ _ h1),λlx hlx=>?_⟩⟩))⟩));rw [Wl _ i (by rw [zA];exact hi),<- List.map_drop,<- List.map_take];have WA:=iP.trans (xx (o:=HO.lst (List.map V.ref ((as.drop 1).take i))) hlx);have h3:(upd H5 lx (HO.lst (List.map V.ref ((as.drop 1).take i)))) lx=some (.lst (List.map V.ref ((as.drop 1).take i))):=xq;generalize upd H5 lx (HO.lst (List.map V.ref ((as.drop 1).take i)))=H6 at WA h3 ⊢;refine (zr rfl (YL b lx w0 s0 i a0 T aa tr tm ps _ ⟨rfl,(hb.same ji).same WA,gd,VT,by omega,h3,by rw [zV,xN];omega,λj c hj=>?_,nw,λlr cs H7 Nj sm7 h7 lcs wk=>?_⟩))
    ·have:as[j + 1]?=some c:=by
      rw [List.getElem?_take] at hj;split at hj
      ·rw [List.getElem?_drop,Nat.add_comm] at hj;exact hj
      ·cases hj
     exact WA _ _ (rws.at' (j + 1) c this).2
    ·have RK:=ji.trans WA;exact qy i lr cs T H7 ⟨c,no⟩ (RK.free Nj) (RK.trans sm7) h7 lcs lT wk
   ·refine ⟨⟨_,_,rfl⟩,iP,λj hj=>?_⟩;rcases xQ j i with lj | lj
    ·exact no j lj
    ·have ej:j=i:=by omega
     rw [ej];exact c
  ·rintro σ H4 ⟨⟨v7,v8,rfl⟩,sm,no⟩;rw [zA] at no;have pos:=List.length_pos_iff.mpr rws.pos;refine qn (λi=>?_) _ (ji.trans sm);rcases xQ i as.length with li | li
   ·exact no i li
   ·have:=Q7 gd (m:=as.length - 1) (by rw [show as.length - 1 + 1=as.length by omega];exact rws.last) i (by omega);rw [this];exact no _ (by omega)
theorem Lf:aZ P w K mg base cB 2 a.BZ a.Dm ["book", "wish", "last"] (Oh):=by
 have MG:=LR P w base T B;have EY:=GH P w base T B;have D6:=Fp P w base T B;refine T.CL.ok Hs (λvs H Q E h=>?_) (λbW A outer s H vs Q E hr h=>?_)
 ·obtain ⟨b,k,x,_,_,_,_,rfl,_⟩:=h;rfl
 ·have nd:=Hs.nd;have hu:=hr.units;obtain ⟨b,k,x,aa,tr,tm,ps,rfl,hb,hn,gd,q⟩:=h;refine cz ?_;intro Y
  let B0:Bk Y (nb (aq DY) 1):=⟨_,(xw (wN (wa (PW.pt (eV (i7 (kM (wO (wS rfl) (pv 3) (pv 5) (λ_ _=>rfl)))) (dB (qF (wG MG (hr.mono (by decide)) rfl T.Mx T.My T.MA .nil aC (xu (xv (wO (wS rfl) (pv 3) (pv 6) (λ_ _=>rfl)) (xv (pv 7) wH rfl) rfl))))))) (xw (wN (wu (wK qH (pv 7) xy) (kK (pv 3) (pv 5) qq)))) wQ)))⟩
  let B1:Bk Y ((aq DY).drop 1):=⟨_,(xw (wJ (qG PassesOwn.never rfl (wn rfl (mJ rfl (wG EY (hr.mono (by decide)) rfl T.IH T.IR T.Jb .nil aC (xu (xv (pv 0) wH rfl))))) (wX (n:=4) rfl rfl (wD (wE (i:=4) nd rfl rfl) (wD (wE (i:=5) nd rfl rfl) (wD (wE (i:=6) nd rfl rfl) (wD (wE (i:=7) nd rfl rfl) wW))))) B0.ps) (wN (wL (pv 3)))))⟩
  refine ⟨_,(xw (wJ (wI (i:=3) nd rfl rfl (wG D6 (hr.mono (by decide)) rfl T.Gd T.Ge T.Gf .nil aC (xu (xv (pv 0) (xv (pv 1) (xv (pv 2) wH rfl) rfl) rfl)))) B1.bl)),?_⟩;have line:=cP;refine (zr rfl (zr rfl (zr rfl (OY b k x aa tr tm ps ⟨rfl,hb,hn,λl H1 hl ji h1=>?_⟩))));refine (zr rfl (Zr b aa tr tm ps ⟨rfl,hb.same ji,gd,λlw ws H2 UC iP h2 hr ew=>?_⟩));refine ⟨lw,zr rfl ⟨aU.of h2,λlr Nj=>?_⟩⟩;have Wc:=iP _ _ h1;have rE:(ws.map (·.2)).map (·.w)=aI (ps.map (·.2)):=by
   have:=ie (ps.map (·.2));rw [zA] at this;rw [ew,this]
  refine ⟨lr,rfl,⟨_,aU.of xq⟩,?_⟩;refine (let W23:IV:=λi σ H4=>(∃ v4 v5 v6 v7,σ=[some (.ref b),some (.int k),some (.int x),some (.ref l),v4,v5,v6,v7])/\aG H H4/\H4 l=some (.lst ((rep aa.length (((ws.reverse.take i).map (·.2.w)).foldl bU (aE k x))).map oV))/\(∀ b u,b≠l->(upd H2 lr (.lst (ws.map λa=>V.ref a.1).reverse)) b=some u->H4 b=some u);qM (K:=K) (a:=lr) (xs:=(ws.reverse.map λa=>V.ref a.1)) W23)
   ?_ ?_ ?_ ?_
  ·exact ⟨⟨_,_,_,_,rfl⟩,(ji.trans iP).trans (xx Nj),xx Nj _ _ Wc,λ_ _ _ e=>e⟩
  ·rintro i σ H4 _ ⟨_,_,_,kp⟩;have nl:lr≠l:=(wC Wc Nj).symm;exact aU.of (by rw [kp lr _ nl xq,xg])
  ·rintro i y σ H4 hy ⟨⟨v4,v5,v6,v7,rfl⟩,lH,h4,kp⟩;obtain ⟨r,p8,rfl⟩:=wY hy;have rm:r∈ws:=List.mem_reverse.mp (zB p8);have jK:=hr r rm;have nl:r.1≠l:=cZ jK Wc (by intro z;cases z);have cy:=kp r.1 _ nl (xx Nj _ _ jK);have wm:r.2.w∈aI (ps.map (·.2)):=by
    rw [<-rE];exact zK.mpr ⟨r.2,zK.mpr ⟨r,rm,rfl⟩,rfl⟩
   obtain ⟨g1,g2,g3,g4,g5⟩:=qa gd wm;have gl:r.2.w.g < aa.length:=by omega
   have ol:r.2.w.o < aa.length:=by omega
   have fold:∀ f:Fn,((ws.reverse.take i).map (·.2.w)).foldl bU (aE k x)=f->((ws.reverse.take (i + 1)).map (·.2.w)).foldl bU (aE k x)=bU f r.2.w:=λf e=>by
    rw [we p8,zE,yP,e];rfl
   refine (pS cy ?_);generalize ef:((ws.reverse.take i).map (·.2.w)).foldl bU (aE k x)=f at h4;have fo:=fold f ef;have hg:((rep aa.length f).map oV)[r.2.w.g]?=some (oV (f r.2.w.g)):=qu gl;have ho:((rep aa.length f).map oV)[r.2.w.o]?=some (oV (f r.2.w.o)):=qu ol;refine (zr rfl (zr rfl (fk h4 (wV hg) (zr rfl (dP (λc=>?_) (λc=>aQ rfl ?_))))))
   ·have c':=fX.mp c;refine (zr rfl (zr rfl (fk h4 (wV ho) (zr rfl ⟨f r.2.w.o,r.2.w.t,rfl,zr rfl (kP (λc2=>?_) (λc2=>?_))⟩))))
    ·refine (zr rfl (aT rfl rfl (zr rfl (zr rfl ⟨l,_,_,r.2.w.g,rfl,rfl,h4,eG (by rw [zA,qZ];exact gl),⟨_,_,_,_,rfl⟩,aG.put hl lH,?_,λb u nb e=>by rw [wF nb];exact kp b u nb e⟩))));rw [xq,fo];unfold bU;rw [if_pos ⟨c',c2⟩,<- iw gl,xf];rfl
    ·refine ⟨⟨_,_,_,_,rfl⟩,lH,?_,kp⟩;rw [fo];unfold bU;rw [if_neg λz=>by rw [z.2] at c2;cases c2];exact h4
   ·refine ⟨⟨_,_,_,_,rfl⟩,lH,?_,kp⟩;rw [fo];unfold bU;rw [if_neg λz=>c (fX.mpr z.1)];exact h4
  ·rintro σ H4 ⟨⟨v4,v5,v6,v7,rfl⟩,lH,h4,kp⟩;refine (zr rfl (q l _ hl lH ?_));rw [zA,zq] at h4;have e:((ws.reverse.map (·.2.w)).foldl bU (aE k x))=bwd (ps.map (·.2)) k x:=by
    unfold bwd;rw [<-rE,zo,<- xg];rfl
   rw [e] at h4;exact h4
theorem JD:aZ P w K mg base cB 2 a.Bc a.CB ["_law_book_here", "_law_sender", "_law_since", "_law_wish", "_law_last"] (Vc):=by
 have La:=JA P w base T B;refine T.BL.ok F4 (λvs H Q E h=>?_) (λbW A outer s H vs Q E hr h=>?_)
 ·obtain ⟨b,k,w,x,z,_,_,_,_,rfl,_⟩:=h;rfl
 ·have nd:=F4.nd;have hu:=hr.units;obtain ⟨b,k,w,x,z,aa,tr,tm,ps,rfl,hk,hw,hb,hn,gd,q⟩:=h;refine ⟨_,(xw (wJ (wI (i:=5) nd rfl rfl (wO (wS rfl) (wG La (hr.mono (by decide)) rfl T.Kx T.KG T.KO .nil aC (xu (xv (pv 0) (xv (pv 1) (xv (pv 2) wH rfl) rfl) rfl))) (pv 3) (λ_ _=>rfl))) (wN (wL (dJ (nU (iz (pv 5))) (fS (fV nW (pv 5) (pv 4) (aM _)))))))),?_⟩;refine (zr rfl (zr rfl (zr rfl (OY b k x aa tr tm ps ⟨rfl,hk,hb,hn,gd,λl H1 hl sm h1=>(zr rfl (fk h1 (wV (qu hw)) ?_))⟩))));have q':=q _ sm;cases e:fwd (ps.map (·.2)) (aE k x) w with
  | none=>
   rw [e] at q';exact (zr rfl (zr rfl (aQ rfl q')))
  | some y=>
   rw [e] at q';exact (zr rfl (zr rfl (bP rfl (zr rfl (zr rfl (aT rfl rfl q'))))))
theorem JE:aZ P w K mg base cB 1 a.Bd a.CC ["_law_book_here"] (QA):=by
 refine T.BM.ok F5 (λvs H Q E h=>?_) (λbW A outer s H vs Q E hr h=>?_)
 ·obtain ⟨_,_,_,_,_,rfl,_⟩:=h;rfl
 ·have nd:=F5.nd;have hu:=hr.units;obtain ⟨b,aa,tr,tm,ps,rfl,hb,gd,q⟩:=h;refine ⟨_,(xw (wN (wL (wg (xu (xv (wO (wT rfl) (pv 0) xy (λ_ _=>rfl)) (xv (qY (qT) (by rfl) T.eK yJ (xu (xv (qQ (own:=["_law_row"]) (caps:=[]) rfl (show aV ["_law_row"] [] ["_law_book_here"] (aB DO) _ from L2.gU) (fF rfl (wO (wT rfl) (pv 0) xy (λ_ _=>rfl))) (λ_ _ _ _=>(wE (i:=0) (show List.Nodup (["_law_row"]:List Str) from by decide +kernel) rfl rfl)) (λ_ _ _ _=>uf (wM nV (wO (wT rfl) (pv 0) xy (λ_ _=>rfl)) (wK fc xy xy) (aM _))) (λ_ _ _ _=>(pv 0))) wH rfl))) wH rfl) rfl)))))),?_⟩;have line:=cP;have OH:=gd.len;have c9:N1 10 9:=⟨by decide,by decide,by decide⟩;have e9:(10:Int) ^ Int.toNat 9=1000000000:=by decide
  refine (zr rfl (cT hb.book rfl (zr rfl (cT hb.book rfl ⟨tm,rfl,⟨_,bS.of hb.meets⟩,?_⟩))));refine (let W24:IC:=λi τ acc H5=>(∃ t0,τ=[t0])/\acc=((ps.take i).filter λa=>decide (a.2.t < 1000000000)).map (λa=>V.ref a.1)/\H=H5;gW (K:=K) (a:=tm) (xs:=ps.map λa=>V.ref a.1) W24 ⟨⟨_,rfl⟩,rfl,rfl⟩ (by rw [zA];omega) ?_ ?_ ?_)
  ·rintro i τ acc H5 ⟨⟨t0,rfl⟩,rfl,rfl⟩;exact ⟨by rw [zA];exact yC (List.length_filter_le _ _) (by rw [zV];exact Nat.min_le_left _ _),bS.of hb.meets⟩
  ·rintro i x τ acc H5 C hx ⟨⟨t0,rfl⟩,rfl,rfl⟩ hC;obtain ⟨r,hr,rfl⟩:=wY hx;have cy:H r.1=some (.tup [.int r.2.lo,.int r.2.hi,.int r.2.t,.int r.2.m]):=hb.rows r (zB hr);have sn:=Rp (p:=λa=>decide (a.2.t < 1000000000)) hr;refine (zr rfl (cT cy rfl (aT rfl rfl ⟨c9,aT rfl rfl (zr rfl ?_)⟩)));rw [e9];by_cases c1:r.2.t < 1000000000
   ·exact bP (decide_eq_true c1) (zr rfl (hC _ _ _ ⟨⟨_,rfl⟩,by rw [sn,if_pos (decide_eq_true c1),zE];rfl,rfl⟩))
   ·exact aQ (decide_eq_false c1) (hC _ _ _ ⟨⟨_,rfl⟩,by rw [sn,if_neg (by simp [c1]),zy],rfl⟩)
  ·rintro τ acc H5 ⟨⟨t0,rfl⟩,rfl,rfl⟩ lc iA;rw [zA,zq];refine ⟨lc,zr rfl (.inl ⟨aU.of xq,λt2 mw=>⟨by show 2<=sizeLine;omega,λb' dZ=>?_⟩⟩)⟩;have s6:=(xx (o:=HO.lst ((ps.filter λa=>decide (a.2.t < 1000000000)).map λa=>V.ref a.1)) iA).trans (xx (o:=HO.tup ((ps.filter λa=>decide (a.2.t < 1000000000)).map λa=>V.ref a.1)) mw);have s7:=xx (o:=HO.tup [V.ref tr,V.ref t2]) dZ;exact q b' t2 _ _ (s6.trans s7) ⟨xq,s7 _ _ (s6 _ _ hb.aa),s7 _ _ xq,λa ha=>s7 _ _ (s6 _ _ (hb.rows a (List.mem_filter.mp ha).1))⟩ List.filter_sublist (λx hx=>of_decide_eq_true (List.mem_filter.mp hx).2)
theorem GK:aZ P w K mg base cB 1 a.At a.AX ["_law_book_here", "_law_end_here"] (Og):=by
 refine T.AD.ok Ec (λvs H Q E h=>?_) (λbW A outer s H vs Q E hr h=>?_)
 ·obtain ⟨_,_,_,_,_,_,rfl,_⟩:=h;rfl
 ·have nd:=Ec.nd;have hu:=hr.units;obtain ⟨b,e,aa,tr,tm,ps,rfl,hb,gd,e9,lt,q⟩:=h;refine cz ?_;intro Y
  let B0:Bk Y ((aq wz).drop 1):=⟨_,(xw (wN (wL (wg (xu (xv (wO (wT rfl) (pv 0) xy (λ_ _=>rfl)) (xv (qY (qT) (by rfl) T.eK yJ (xu (xv (qQ (own:=["_law_when", "_law_one", "_law_other", "_law_passed"]) (caps:=[]) rfl (show aV ["_law_when", "_law_one", "_law_other", "_law_passed"] [] ["_law_book_here", "_law_end_here", "_law_found"] (aB wz) _ from L2.gU) (wn rfl (pv 2)) (λ_ _ _ _=>(wX (n:=4) rfl rfl (wD (wE (i:=0) (show List.Nodup (["_law_when", "_law_one", "_law_other", "_law_passed"]:List Str) from by decide +kernel) rfl rfl) (wD (wE (i:=1) (show List.Nodup (["_law_when", "_law_one", "_law_other", "_law_passed"]:List Str) from by decide +kernel) rfl rfl) (wD (wE (i:=2) (show List.Nodup (["_law_when", "_law_one", "_law_other", "_law_passed"]:List Str) from by decide +kernel) rfl rfl) (wD (wE (i:=3) (show List.Nodup (["_law_when", "_law_one", "_law_other", "_law_passed"]:List Str) from by decide +kernel) rfl rfl) wW)))))) (λ_ _ _ _=>qU) (λ_ _ _ _=>(wg (xu (xv (pv 1) (xv (pv 2) (xv (pv 0) (xv (pv 3) wH rfl) rfl) rfl) rfl))))) wH rfl))) wH rfl) rfl))))))⟩
  refine ⟨_,(xw (wJ (wI (i:=2) nd rfl rfl (wP (pB) (by rfl) T.pJ PyProof.Rows.boot_sorted (xu (xv (qQ (own:=["_law_one", "_law_other", "_law_when", "_law_passed"]) (caps:=[1]) rfl (show aV ["_law_one", "_law_other", "_law_when", "_law_passed"] [1] ["_law_book_here", "_law_end_here", "_law_found"] (aB wz) _ from L2.gU) (fF rfl (wO (wT rfl) (pv 0) xy (λ_ _=>rfl))) (λ_ _ _ _=>(wX (n:=4) rfl rfl (wD (wE (i:=0) (show List.Nodup (["_law_one", "_law_other", "_law_when", "_law_passed", "_law_end_here"]:List Str) from by decide +kernel) rfl rfl) (wD (wE (i:=1) (show List.Nodup (["_law_one", "_law_other", "_law_when", "_law_passed", "_law_end_here"]:List Str) from by decide +kernel) rfl rfl) (wD (wE (i:=2) (show List.Nodup (["_law_one", "_law_other", "_law_when", "_law_passed", "_law_end_here"]:List Str) from by decide +kernel) rfl rfl) (wD (wE (i:=3) (show List.Nodup (["_law_one", "_law_other", "_law_when", "_law_passed", "_law_end_here"]:List Str) from by decide +kernel) rfl rfl) wW)))))) (λ_ _ _ _=>qU) (λ_ _ _ _=>(wg (xu (xv (wK qH (pv 4) (pv 2)) (xv (pv 0) (xv (pv 1) (xv (pv 3) wH rfl) rfl) rfl) rfl))))) wH rfl)))) B0.bl)),?_⟩;have line:=cP;have OH:=gd.len;refine (zr rfl (cT hb.book rfl ⟨tm,rfl,⟨_,bS.of hb.meets⟩,?_⟩));refine (let W25:IC:=λi τ acc H5=>∃ fs:List (Addr×M4),(∃ t0 t1 t2 t3,τ=[t0,t1,t2,t3,some (.int e)])/\acc=(fs.map λa=>V.ref a.1)/\fs.map (·.2)=((ps.map (·.2)).take i).map (lF e)/\(∀ x∈fs,H5 x.1=some (.tup (x.2.row.map V.int)))/\aG H H5;gW (K:=K) (a:=tm) (xs:=ps.map λa=>V.ref a.1) W25 ⟨[],⟨_,_,_,_,rfl⟩,rfl,rfl,(λ_ z=>nomatch z),aG.refl _⟩ (by rw [zA];omega) ?_ ?_ ?_)
  ·rintro i τ acc H5 ⟨fs,_,rfl,ef,_,s5⟩;have:=congrArg List.length ef;rw [zA,zA,zV] at this;exact ⟨by rw [zA];omega,bS.of (s5 _ _ hb.meets)⟩
  ·rintro i x τ acc H5 C hx ⟨fs,⟨t0,t1,t2,t3,rfl⟩,rfl,ef,rf,s5⟩ hC;obtain ⟨r,hr,rfl⟩:=wY hx;have hM:(ps.map (·.2))[i]?=some r.2:=by rw [zS,hr];rfl
   have cy:H5 r.1=some (.tup [.int r.2.lo,.int r.2.hi,.int r.2.t,.int r.2.m]):=s5 _ _ (hb.rows r (zB hr));refine (pS cy (zr rfl (zr rfl (aT rfl rfl (zr rfl (zr rfl (zr rfl ⟨by show 4<=sizeLine;omega,λt ht=>hC _ _ _ ?_⟩)))))));refine ⟨fs++[(t,lF e r.2)],⟨_,_,_,_,rfl⟩,by rw [zE];rfl,by rw [zE,we hM,zE,ef];rfl,λa ha=>?_,s5.trans (xx ht)⟩;rcases zW.mp ha with h | h
   ·exact xx ht _ _ (rf a h)
   ·cases zJ.mp h;exact xq
  rintro τ acc H5 ⟨fs,_,rfl,ef,rf,s5⟩ lc iA;rw [zA,List.take_of_length_le (by rw [zA];exact zD _)] at ef;have lf:fs.length=ps.length:=by have:=congrArg List.length ef;rwa [zA,zA,zA] at this
  have s6:=s5.trans (xx (o:=HO.lst (fs.map λa=>V.ref a.1)) iA);have k6:upd H5 lc (HO.lst (fs.map λa=>V.ref a.1)) lc=some (.lst (fs.map λa=>V.ref a.1)):=xq;have rf6:∀ x∈fs,upd H5 lc (HO.lst (fs.map λa=>V.ref a.1)) x.1=some (.tup (x.2.row.map V.int)):=λx hx=>xx iA _ _ (rf x hx);generalize upd H5 lc (HO.lst (fs.map λa=>V.ref a.1))=H6 at s6 k6 rf6 ⊢;refine ⟨lc,fs.map (λa=>(a.1,a.2.row)),rfl,by rw [zo];exact aU.of k6,(by rw [zA];omega),(λa ha=>?_),λD qs hD pq sq=>?_⟩
  ·obtain ⟨x,hx,rfl⟩:=zK.mp ha;exact ⟨rf6 x hx,by intro z;cases z⟩
  obtain ⟨rs,WE,srs,rfl⟩:=rX pq sq;have kD:upd H6 D (HO.lst (List.map (λa=>V.ref a.1) (List.map (λa:Addr×M4=>(a.1,a.2.row)) rs))) D=some (.lst (rs.map λa=>V.ref a.1)):=by rw [xq,zo];rfl
  have s7:=xx (o:=HO.lst (List.map (λa=>V.ref a.1) (List.map (λa:Addr×M4=>(a.1,a.2.row)) rs))) hD;have rf7:=λx hx=>s7 _ _ (rf6 x hx);generalize upd H6 D (HO.lst (List.map (λa=>V.ref a.1) (List.map (λa:Addr×M4=>(a.1,a.2.row)) rs)))=H7 at kD s7 rf7 ⊢;have hb7:=hb.same (s6.trans s7);have lr:rs.length=ps.length:=by rw [WE.length_eq,lf]
  refine (zr rfl (cT hb7.book rfl (zr rfl ⟨D,rfl,⟨_,aU.of kD⟩,?_⟩)));have r9:∀ x∈rs,H7 x.1=some (.tup [.int x.2.t,.int x.2.lo,.int x.2.hi,.int x.2.m]):=λx hx=>rf7 x (WE.mem_iff.mp hx);refine (let W26:IC:=λi τ acc H8=>∃ gs:List (Addr×M4),(∃ t0 t1 t2 t3,τ=[t0,t1,t2,t3])/\acc=(gs.map λa=>V.ref a.1)/\gs.map (·.2)=(rs.take i).map (·.2)/\dS H8 gs/\aG H7 H8;cU (K:=K) (a:=D) (xs:=rs.map λa=>V.ref a.1) W26 ⟨[],⟨_,_,_,_,rfl⟩,rfl,rfl,(λ_ z=>nomatch z),aG.refl _⟩ (by rw [zA];omega) ?_ ?_ ?_)
  ·rintro i τ acc H8 ⟨gs,_,rfl,eg,_,s8⟩;have:=congrArg List.length eg;rw [zA,zA,zV] at this;exact ⟨by rw [zA];omega,aU.of (s8 _ _ kD)⟩
  ·rintro i x τ acc H8 C hx ⟨gs,⟨t0,t1,t2,t3,rfl⟩,rfl,eg,rg,s8⟩ hC;obtain ⟨r,hr,rfl⟩:=wY hx;have cy:=s8 _ _ (r9 r (zB hr));refine (pS cy (zr rfl (zr rfl (zr rfl (zr rfl ⟨by show 4<=sizeLine;omega,λt ht=>hC _ _ _ ?_⟩)))));refine ⟨gs++[(t,r.2)],⟨_,_,_,_,rfl⟩,by rw [zE];rfl,by rw [zE,we hr,zE,eg];rfl,λa ha=>?_,s8.trans (xx ht)⟩;rcases zW.mp ha with h | h
   ·exact xx ht _ _ (rg a h)
   ·cases zJ.mp h;exact xq
  rintro τ acc H8 ⟨gs,_,rfl,eg,rg,s8⟩ l9 TN;rw [zA,zq] at eg;refine ⟨l9,zr rfl (.inl ⟨aU.of xq,λt2 mw=>⟨by show 2<=sizeLine;omega,λb' dZ=>?_⟩⟩)⟩;have s9:=(xx (o:=HO.lst (gs.map λa=>V.ref a.1)) TN).trans (xx (o:=HO.tup (gs.map λa=>V.ref a.1)) mw);have N4:=xx (o:=HO.tup [V.ref tr,V.ref t2]) dZ;have lo:=Turn.loose gd e9 lt;rw [<-ef] at lo;have g2:=lo.good2 WE (srs.imp λh=>Yb h);refine q b' t2 gs _ (s6.trans (s7.trans (s8.trans (s9.trans N4)))) ⟨xq,N4 _ _ (s9 _ _ (s8 _ _ hb7.aa)),N4 _ _ xq,λa ha=>N4 _ _ (s9 _ _ (rg a ha))⟩ (by rw [eg];exact g2) ?_;unfold Turn;rw [eg,<- ef];exact WE.map _
theorem Lj:aZ P w K mg base cB 2 a.Cg a.Du ["_law_purse_here", "_law_book_here", "_law_letter_here"] (Vb):=by
 have Ab:=qE P w base T B;refine T.CU.ok HE (λvs H Q E h=>?_) (λbW A outer s H vs Q E hr h=>?_)
 ·obtain ⟨_,_,_,_,_,_,_,_,_,_,_,rfl,_⟩:=h;rfl
 ·have nd:=HE.nd;have hu:=hr.units;obtain ⟨p,b,lt,s0,w0,x,z,aa,tr,tm,ps,rfl,pu,hb,gd,lt9,hL,x9,z9,q⟩:=h;refine cz ?_;intro Y
  let B0:Bk Y ((aq D2).drop 2):=⟨_,(xw (wN (wL (wK wb (pv 3) (wG Ab (hr.mono (by decide)) rfl T.Ac T.Ae T.Af .nil aC (xu (xv (pv 0) (xv (wO (wS rfl) (wc (xu (xv xy (xv (wP (dD rfl) (by rfl) T.pK ya (xu (xv xy (xv (pv 4) wH rfl) rfl))) (xv (pv 4) wH rfl) rfl) rfl))) (wG Ab (hr.mono (by decide)) rfl T.Ac T.Ae T.Af .nil aC (xu (xv (pv 0) (xv xy wH rfl) rfl))) (λ_ _=>rfl)) wH rfl) rfl)))))))⟩
  refine ⟨_,(xw (wJ (wI (i:=3) nd rfl rfl (wK wb xy (wP (Ry rfl) (by rfl) T.NR yz (xu (xv (wK S2 (wc (xu (xv (wO (wT rfl) (pv 2) xy (λ_ _=>rfl)) (xv (wO (wT rfl) (pv 2) xy (λ_ _=>rfl)) wH rfl) rfl))) (qQ (own:=["_law_row"]) (caps:=[]) rfl (show aV ["_law_row"] [] ["_law_purse_here", "_law_book_here", "_law_letter_here", "_law_least", "_law_room"] (aB D2) _ from L2.gU) (fF rfl (wO (wT rfl) (pv 1) xy (λ_ _=>rfl))) (λ_ _ _ _=>(wE (i:=0) (show List.Nodup (["_law_row"]:List Str) from by decide +kernel) rfl rfl)) (λ_ _ _ _=>qU) (λ_ _ _ _=>(wO (wT rfl) (pv 0) xy (λ_ _=>rfl))))) wH rfl))))) (wJ (wI (i:=4) nd rfl rfl (wK qH (wK wb (wK fc xy xy) xy) (pv 3))) B0.bl))),?_⟩;have line:3010<=sizeLine:=by rw [sizeLine_eq];decide
  have OH:=gd.len;have c9:N1 10 9:=⟨by decide,by decide,by decide⟩;have e9:(10:Int) ^ Int.toNat 9=1000000000:=by decide
  refine (zr rfl (cT hL.1 rfl (zr rfl (cT hL.1 rfl ⟨by show 2<=sizeLine;omega,λl1 hl1=>?_⟩))));have s1:=xx (o:=HO.lst [V.int x,V.int z]) hl1;have k1:upd H l1 (HO.lst [V.int x,V.int z]) l1=some (.lst [V.int x,V.int z]):=xq;generalize upd H l1 (HO.lst [V.int x,V.int z])=H1 at s1 k1 ⊢;have lQ:=hb.same s1;refine (zr rfl (cT lQ.book rfl ⟨tm,rfl,⟨_,bS.of lQ.meets⟩,?_⟩));refine (let W27:IC:=λi τ acc H5=>(∃ t0,τ=[t0])/\acc=(ps.take i).map (λa=>V.int a.2.t)/\H1=H5;gW (K:=K) (a:=tm) (xs:=ps.map λa=>V.ref a.1) W27 ⟨⟨_,rfl⟩,rfl,rfl⟩ (by rw [zA];omega) ?_ ?_ ?_)
  ·rintro i τ acc H5 ⟨⟨t0,rfl⟩,rfl,rfl⟩;exact ⟨by rw [zA,zV];omega,bS.of lQ.meets⟩
  ·rintro i v τ acc H5 C hx ⟨⟨t0,rfl⟩,rfl,rfl⟩ hC;obtain ⟨r,hr,rfl⟩:=wY hx;have cy:H1 r.1=some (.tup [.int r.2.lo,.int r.2.hi,.int r.2.t,.int r.2.m]):=lQ.rows r (zB hr);exact (zr rfl (cT cy rfl (hC _ _ _ ⟨⟨_,rfl⟩,by rw [we hr,zE];rfl,rfl⟩)))
  rintro τ acc H5 ⟨⟨t0,rfl⟩,rfl,rfl⟩ l2 Rc;rw [zA,zq];have s2:=xx (o:=HO.lst (ps.map λa=>V.int a.2.t)) Rc;refine ⟨l1,l2,aT rfl rfl ⟨s2 _ _ k1,xq,by rw [zA];show 2 + ps.length<=sizeLine;omega,λl3 hl3=>?_⟩⟩;have s3:=xx (o:=HO.lst ([V.int x,V.int z]++ps.map λa=>V.int a.2.t)) hl3;refine ⟨l3,x::z::ps.map (λa=>a.2.t),rfl,aU.of (by rw [xq,zc,zc,zo];rfl),by simp,λM hM mx=>(aT rfl rfl ?_)⟩;have RL:=s1.trans (s2.trans s3);have Zd:=pu.same RL;generalize upd (upd H1 l2 (HO.lst (ps.map λa=>V.int a.2.t))) l3 (HO.lst ([V.int x,V.int z]++ps.map λa=>V.int a.2.t))=H3 at RL Zd ⊢;have xM:x<=M:=mx x (.head _);have zM:z<=M:=mx z (.tail _ (.head _));have tM:∀ x∈ps,x.2.t<=M:=λx hx=>mx _ (.tail _ (.tail _ (zK.mpr ⟨x,hx,rfl⟩)));have x0:=hL.2.2.2.1;have M9:M < 1000000000:=by
   rcases zH.mp hM with h | h
   ·omega
   rcases zH.mp h with h | h
   ·omega
   ·obtain ⟨x,hx,rfl⟩:=zK.mp h;exact lt9 x hx
  refine (aT rfl rfl ⟨c9,aT rfl rfl (zr rfl (aT rfl rfl ?_))⟩);refine (zr rfl (zr rfl (zr rfl (gJ rfl (zr rfl ⟨by show 3<=sizeLine;omega,λl4 Yy=>(zr rfl ⟨p,3,rfl,by decide,by decide,Zd.new Yy,λd H5 d0 d3 g5=>?_⟩)⟩)))));have key:∀ (H':Hp) (nn:Int),1<=nn->nn<=1000000000 + 1 - (1 + M)->bZ H' p->cL p H3 H'->Sf [.ref p,.int nn] H' (λx H1=>∃ a b,V.int (1 + M)=.int a/\x=.int b/\Q (.int (a + b)) H1) E0:=λH' nn n1 n9 pu' b'=>⟨p,nn,rfl,by omega,Int.lt_of_le_of_lt (b:=1000000000) (by omega) (by decide),pu',λd6 H6 d60 d61 g6=>(aT rfl rfl (q _ _ ⟨λc o hc e=>g6.1 c o hc (b' c o hc (RL _ _ e)),g6.2⟩ (by omega) (by omega) (by omega) (λx hx=>by have:=tM x hx;omega)))⟩;have b5:cL p H3 H5:=λc o hc e=>g5.1 c o hc (xx Yy _ _ e);have k5:=g5.1 l4 _ (Zd.ne Yy) xq;rw [e9] at k5;rcases (by omega:d=0\/d=1\/d=2) with rfl | rfl | rfl
  ·exact (fk k5 rfl (key H5 _ (zb _) (by omega) g5.2 b5))
  ·exact (fk k5 rfl (key H5 _ (by split <;> omega) (by split <;> omega) g5.2 b5))
  ·exact (fk k5 rfl (key H5 _ (by omega) (by omega) g5.2 b5))
theorem ID:aZ P w K mg base cB 7 a.AN a.BP ["_law_book_here", "_law_behind", "_law_end_here", "_law_letter_here", "_law_back"] (Si a.tP dN):=by
 have Hn:=Iy P w base T B;have Jr:=Mv P w base T B;refine T.Bi.ok Fg (λvs H Q E h=>?_) (λbW A outer s H vs Q E hr h=>?_)
 ·obtain ⟨_,_,_,_,_,_,_,_,_,_,_,_,_,rfl,_⟩:=h;rfl
 ·have nd:=Fg.nd;have hu:=hr.units;obtain ⟨b,b',e,lt,lt',x,aa,tr,tm,ps,iY,eO,qs,rfl,wy,ud,vF,PJ,mt,q⟩:=h;refine cz ?_;intro Y
  let B0:Bk Y ((aq qJ).drop 6):=⟨_,(xw (wN (wL (fV cY (wO (wT rfl) (wG Jr (hr.mono (by decide)) rfl T.II T.IS T.Jc .nil aC (xu (xv (wG Hn (hr.mono (by decide)) rfl T.Kf T.Kh T.Kj .nil aC (xu (xv (pv 1) (xv (pv 11) wH rfl) rfl))) (xv (pv 4) wH rfl) rfl))) xy (λ_ _=>rfl)) kL (aM _)))))⟩
  let B1:Bk Y ((aq qJ).drop 5):=⟨_,(xw (wJ (wI (i:=11) nd rfl rfl (dI PySem.F.plainAttrs_tuple PySem.F.slot_tuple_index PySem.F.type_tuple_index (QU rfl (by exact hu)) (wO (wT rfl) (pv 1) xy (λ_ _=>rfl)) (xu (xv (wg (xu (xv (pv 7) (xv (pv 8) (xv (wK qH (pv 2) (pv 9)) (xv (pv 10) wH rfl) rfl) rfl) rfl))) wH rfl)))) B0.bl))⟩
  let B2:Bk Y ((aq qJ).drop 4):=⟨_,(xw (wJ (wu (wO (wT rfl) (wO (wT rfl) (pv 0) xy (λ_ _=>rfl)) (wO (wT rfl) (pv 5) xy (λ_ _=>rfl)) (λ_ _=>rfl)) (wX (n:=4) rfl rfl (wD (wE (i:=7) nd rfl rfl) (wD (wE (i:=8) nd rfl rfl) (wD (wE (i:=9) nd rfl rfl) (wD (wE (i:=10) nd rfl rfl) wW)))))) B1.bl))⟩
  let B3:Bk Y ((aq qJ).drop 2):=⟨_,(xw (wJ (wa (wM lJ (wO (wT rfl) (pv 5) xy (λ_ _=>rfl)) (wO (wT rfl) (pv 6) xy (λ_ _=>rfl)) (aM _)) (xw (wN (wL fH))) wQ) (wJ (wa (wM lJ (wO (wT rfl) (pv 5) xy (λ_ _=>rfl)) kL (aM _)) (xw (wN (wL fH))) wQ) B2.bl)))⟩
  refine ⟨_,(xw (wJ (wI (i:=5) nd rfl rfl (wG Jr (hr.mono (by decide)) rfl T.II T.IS T.Jc .nil aC (xu (xv (pv 0) (xv (pv 3) wH rfl) rfl)))) (wJ (wI (i:=6) nd rfl rfl (wG Jr (hr.mono (by decide)) rfl T.II T.IS T.Jc .nil aC (xu (xv (pv 1) (xv (pv 4) wH rfl) rfl)))) B3.bl))),?_⟩;have line:3010<=sizeLine:=by rw [sizeLine_eq];decide
  have OH:=wy.gd.len;have QY:(ps.map (·.2)).length=ps.length:=zA ..;refine (zr rfl (zr rfl (Rq b lt x.s x.w x.a x.z aa tr tm ps ⟨rfl,wy.hb,ud,vF,PJ,wy.gd,wy.hL,mt,λt HA btA mtA told=>?_⟩)));have wA:=wy.br (MT.jj mt btA);refine (zr rfl (zr rfl ⟨b',lt',x.w,x.s,e - x.z - 1,e - x.a - 1,aa,iY,eO,qs,rfl,wA.dZ,ud,vF,PJ,wy.lR,wA.WS,mtA,λt' HB btB mtB ZC=>?_⟩));have tB:=MT.jj mtA btB;have wB:=wA.br tB;have bB:cL a.tP H HB:=btA.trans btB;rcases RA wy.gd wy.lR wy.tu wy.hL.2.1 wy.hL.2.2.1 told ZC with ⟨_,ys,N7,hT,TY⟩ | ⟨_,ys,N7,hT,TY⟩ | ⟨k,l,N7,hk,lo,hT,TY⟩
  ·have V7:=tB _ _ hT;refine (zr rfl (cT V7 (show gb (V.str "none" :: ys) ((0:Nat):Int)=some (V.str "none") from wV rfl) (zr rfl (cT TY (show gb (V.str "none" :: N7) ((0:Nat):Int)=some (V.str "none") from wV rfl) ⟨rfl,zr rfl (aQ (by rw [decide_eq_true rfl];rfl) ?_)⟩))));exact (zr rfl (cT V7 (show gb (V.str "none" :: ys) ((0:Nat):Int)=some (V.str "none") from wV rfl) ⟨rfl,zr rfl (bP (by decide +kernel) (q _ bB mtB))⟩))
  ·have V7:=tB _ _ hT;refine (zr rfl (cT V7 (show gb (V.str "two" :: ys) ((0:Nat):Int)=some (V.str "two") from wV rfl) (zr rfl (cT TY (show gb (V.str "two" :: N7) ((0:Nat):Int)=some (V.str "two") from wV rfl) ⟨rfl,zr rfl (aQ (by rw [decide_eq_true rfl];rfl) ?_)⟩))));exact (zr rfl (cT V7 (show gb (V.str "two" :: ys) ((0:Nat):Int)=some (V.str "two") from wV rfl) ⟨rfl,zr rfl (bP (by decide +kernel) (q _ bB mtB))⟩))
  ·have V7:=tB _ _ hT;refine (zr rfl (cT V7 rfl (zr rfl (cT TY (show gb (V.str "one" :: N7) ((0:Nat):Int)=some (V.str "one") from wV rfl) ⟨rfl,zr rfl (aQ (by rw [decide_eq_true rfl];rfl) ?_)⟩))));refine (zr rfl (cT V7 rfl ⟨rfl,zr rfl (aQ (by decide +kernel) ?_)⟩));rw [QY] at hk;obtain ⟨r,hr⟩:∃ r,ps[k]?=some r:=⟨_,zO hk⟩;have hm:(ps.map (·.2))[k]?=some r.2:=by rw [zS,hr];rfl
   obtain ⟨j,hj⟩:=z6 (wy.tu.mem (zB hm));have hjq:j < qs.length:=by have:=(zC.mp hj).1;rwa [zA] at this
   have cy:HB r.1=some (.tup [.int r.2.lo,.int r.2.hi,.int r.2.t,.int r.2.m]):=wB.hb.rows r (zB hr);refine (zr rfl (cT wB.hb.book rfl (zr rfl (cT V7 rfl (cT wB.hb.meets (wV (v:=V.ref r.1) (by rw [zS,hr];rfl)) (pS cy ?_))))));refine (zr rfl (cT wB.dZ.book rfl ⟨.inr (.inl ⟨rfl,.inr ⟨_,wB.dZ.meets⟩⟩),zr rfl (zr rfl (zr rfl (zr rfl (aT rfl rfl (zr rfl ⟨by show 4<=sizeLine;omega,λt5 ht5=>?_⟩)))))⟩));delta ku;show ue _ (.ref eO) [.ref t5] (upd HB t5 (HO.tup [.int r.2.lo,.int r.2.hi,.int (e - r.2.t),.int r.2.m])) _;have s5:=xx (o:=HO.tup [.int r.2.lo,.int r.2.hi,.int (e - r.2.t),.int r.2.m]) ht5;have k5:upd HB t5 (HO.tup [.int r.2.lo,.int r.2.hi,.int (e - r.2.t),.int r.2.m]) t5=some (.tup (lF e r.2).vs):=xq;generalize upd HB t5 (HO.tup [.int r.2.lo,.int r.2.hi,.int (e - r.2.t),.int r.2.m])=H5 at k5 s5 ⊢;have w5:=wB.br (bN.same s5);have WJ:=L2.MT.same mtB s5;refine OP w5.dZ.meets w5.dZ.rows k5 wy.lR hj ?_;refine (zr rfl (zr rfl ⟨b',j,aa,iY,eO,qs,rfl,w5.dZ,hjq,ud,vF,PJ,wy.lR,WJ,λb2 tr2 tm2 Z1 H6 b6 X5 Rh e6=>?_⟩));have gd6:Good aa.length (Z1.map (·.2)):=by rw [e6];exact wy.lR.sub (yG _ _)
   have w6:=w5.br (MT.jj WJ b6);refine (zr rfl ⟨b2,lt',x.w,x.s,e - x.z - 1,e - x.a - 1,aa,tr2,tm2,Z1,rfl,Rh,ud,vF,PJ,gd6,w6.WS,X5,λt7 H7 b7 mt7 ZA=>?_⟩);have no:bT (Z1.map (·.2)) (NQ e x)=false:=by
    rw [e6,dG (wy.gd.sub (yG _ _)) (wy.lR.sub (yG _ _)) (mZ wy.tu hm hj) wy.hL.2.1];unfold gR at lo;have:=(Bool.and_eq_true_iff.mp lo).2;cases h:bT ((ps.map (·.2)).eraseIdx k) x with
    | false=>rfl
    | true=>rw [h] at this;cases this
   rcases gK (x:=NQ e x) gd6 ZA with ⟨_,ys7,hT7⟩ | ⟨y7,_⟩ | ⟨y7,_⟩
   ·refine (cT hT7 (show gb (V.str "none" :: ys7) ((0:Nat):Int)=some (V.str "none") from wV rfl) ⟨rfl,?_⟩);rw [decide_eq_true rfl];exact q _ (λx u n e=>b7 x u n (b6 x u n (s5 _ _ (bB x u n e)))) mt7
   ·rw [no] at y7;cases y7
   ·rw [no] at y7;cases y7
theorem Ii:aZ P w K mg base cB 6 a.AH a.Bp ["_law_book_here", "_law_behind", "_law_letter_here", "_law_back"] (Su):=by
 have D7:=HI P w base T B;have LL:=Mw P w base T B;have Lc:=JD P w base T B;refine T.A2.ok E5 (λvs H Q E h=>?_) (λbW A outer s H vs Q E hr h=>?_)
 ·obtain ⟨_,_,_,_,_,_,_,_,_,_,_,_,_,rfl,_⟩:=h;rfl
 ·have nd:=E5.nd;have hu:=hr.units;obtain ⟨b,b',e,lt,lt',x,aa,tr,tm,ps,iY,eO,qs,rfl,wy,vF,q⟩:=h;refine cz ?_;intro Y
  let B0:Bk Y ((aq w8).drop 3):=⟨_,(xw (wN (wL (Z3 (OD (pv 5)) (fS (fV cY (wP (wR rfl) (by rfl) T.cH PySem.boot_len (xu (xv (wO (wS rfl) (pv 4) xy (λ_ _=>rfl)) wH rfl))) (wP (wR rfl) (by rfl) T.cH PySem.boot_len (xu (xv (wO (wS rfl) (pv 4) xy (λ_ _=>rfl)) wH rfl))) (aM _)))))))⟩
  let B1:Bk Y ((aq w8).drop 2):=⟨_,(xw (wJ (wa (wM (uh hu) (qQ (own:=["_law_chain"]) (caps:=[]) rfl (show aV ["_law_chain"] [] ["_law_book_here", "_law_behind", "_law_letter_here", "_law_back", "_law_chains", "_law_comes_here"] (aB w8) _ from L2.gU) (wn rfl (pv 4)) (λ_ _ _ _=>(wE (i:=0) (show List.Nodup (["_law_chain"]:List Str) from by decide +kernel) rfl rfl)) (λ_ _ _ _=>qU) (λ_ _ _ _=>(nU (kM (pv 0))))) (wK SY (wc (xu (xv (OD (pv 5)) wH rfl))) xy) (aM _)) (xw (wN (wL fH))) wQ) B0.bl))⟩
  let B2:Bk Y ((aq w8).drop 1):=⟨_,(xw (wJ (wI (i:=5) nd rfl rfl (wG Lc (hr.mono (by decide)) rfl T.Kz T.KI T.KQ .nil aC (xu (xv (pv 0) (xv (wO (wT rfl) (pv 2) xy (λ_ _=>rfl)) (xv (wO (wT rfl) (pv 2) xy (λ_ _=>rfl)) (xv (wO (wT rfl) (pv 2) xy (λ_ _=>rfl)) (xv (wO (wT rfl) (pv 2) xy (λ_ _=>rfl)) wH rfl) rfl) rfl) rfl) rfl)))) B1.bl))⟩
  refine ⟨_,(xw (wJ (wI (i:=4) nd rfl rfl (wc (xu (xv (wG D7 (hr.mono (by decide)) rfl T.EJ T.EK T.EM .nil aC (xu (xv (pv 0) (xv (pv 2) wH rfl) rfl))) (xv (wG D7 (hr.mono (by decide)) rfl T.EJ T.EK T.EM .nil aC (xu (xv (pv 1) (xv (pv 3) wH rfl) rfl))) (xv (wG LL (hr.mono (by decide)) rfl T.Ll T.Lq T.Lw .nil aC (xu (xv (pv 0) (xv (pv 2) wH rfl) rfl))) (xv (wG LL (hr.mono (by decide)) rfl T.Ll T.Lq T.Lw .nil aC (xu (xv (pv 1) (xv (pv 3) wH rfl) rfl))) wH rfl) rfl) rfl) rfl)))) B2.bl)),?_⟩;have line:3010<=sizeLine:=by rw [sizeLine_eq];decide
  have OH:=wy.gd.len;have cm:=dG wy.gd wy.lR wy.tu (x:=x) wy.hL.2.1;have fin:∀ (c:Bool) (H5:Hp) (l1 l2 l3 l4:V),aG H H5->True:=λ_ _ _ _ _ _ _=>trivial;clear fin;cases c:bT (ps.map (·.2)) x with
  | false=>
   rw [c] at cm;refine (zr rfl (zr rfl (Rq b lt x.s x.w x.a x.z aa tr tm ps ⟨rfl,wy.hb,by omega,wy.gd,wy.hL,λ_ H1 s1=>?_,λe0 l ns H1 fe le _ _ _ _ _=>?_⟩)))
   ·have w1:=wy.br (bN.same s1);refine (zr rfl (zr rfl ⟨b',lt',x.w,x.s,e - x.z - 1,e - x.a - 1,aa,iY,eO,qs,rfl,w1.dZ,by omega,wy.lR,w1.WS,λ_ H2 s2=>?_,λe0 l ns H1 fe le _ _ _ _ _=>?_⟩))
    ·have Oz:=s1.trans s2;have w2:=wy.br (bN.same Oz);refine (zr rfl (zr rfl (Rq b lt x.s x.w x.a x.z aa tr tm ps ⟨rfl,w2.hb,by omega,wy.gd,w2.hL,λ_ H3 s3=>?_,λm lr cs e0 H1 _ _ _ _ _ le wk=>?_⟩)))
     ·have RL:=Oz.trans s3;have w3:=wy.br (bN.same RL);refine (zr rfl (zr rfl ⟨b',lt',x.w,x.s,e - x.z - 1,e - x.a - 1,aa,iY,eO,qs,rfl,w3.dZ,by omega,wy.lR,w3.WS,λ_ H4 s4=>?_,λm lr cs e0 H1 _ _ _ _ _ le wk=>?_⟩))
      ·have s14:=RL.trans s4;refine ⟨by show 4<=sizeLine;omega,λlc iA=>?_⟩;have k5:=xx (o:=HO.lst [V.bL,V.bL,V.bL,V.bL]) iA;have h5:upd H4 lc (HO.lst [V.bL,V.bL,V.bL,V.bL]) lc=some (.lst [V.bL,V.bL,V.bL,V.bL]):=xq;generalize upd H4 lc (HO.lst [V.bL,V.bL,V.bL,V.bL])=H5 at k5 h5 ⊢;have Vk:=s14.trans k5;have w5:=wy.br (bN.same Vk);have V1:=w5.hL.1;refine (zr rfl (zr rfl (cT V1 rfl (zr rfl (cT V1 rfl (zr rfl (cT V1 rfl (zr rfl (cT V1 rfl (ex9 b x.s x.w x.a x.z aa tr tm ps ⟨rfl,wy.hL.2.1,wy.hL.2.2.1,w5.hb,by omega,wy.gd,λH6 s6=>?_⟩))))))))));have c':aY (fwd (ps.map (·.2)) (aE x.s x.a) x.w) x.z=false:=c;rw [c'];have Zc:=Vk.trans s6;have h6:=s6 _ _ h5;refine (zr rfl ⟨lc,rfl,⟨_,aU.of h6⟩,?_⟩);refine (let W28:IC:=λi τ acc H7=>(∃ t0,τ=[t0])/\acc=([V.bL,V.bL,V.bL,V.bL].take i).map (λ_=>V.bl true)/\H7=H6;cU (K:=K) (a:=lc) (xs:=[V.bL,V.bL,V.bL,V.bL]) W28 ⟨⟨_,rfl⟩,rfl,rfl⟩ (by show 4<=1000;omega) ?_ ?_ ?_)
       ·rintro i τ acc H7 ⟨_,rfl,rfl⟩;exact ⟨by rw [zA,zV];omega,aU.of h6⟩
       ·rintro i v τ acc H7 C hv ⟨⟨t0,rfl⟩,rfl,rfl⟩ hC
        match i,hv with
        | 0,hv=>cases hv;exact (zr rfl (hC _ _ _ ⟨⟨_,rfl⟩,rfl,rfl⟩))
        | 1,hv=>cases hv;exact (zr rfl (hC _ _ _ ⟨⟨_,rfl⟩,rfl,rfl⟩))
        | 2,hv=>cases hv;exact (zr rfl (hC _ _ _ ⟨⟨_,rfl⟩,rfl,rfl⟩))
        | 3,hv=>cases hv;exact (zr rfl (hC _ _ _ ⟨⟨_,rfl⟩,rfl,rfl⟩))
        | i + 4,hv=>cases hv
       rintro τ acc H7 ⟨_,rfl,rfl⟩ ln Zk;have k8:=xx (o:=HO.lst [V.bl true,V.bl true,V.bl true,V.bl true]) Zk;have h8:upd H7 ln (HO.lst [V.bl true,V.bl true,V.bl true,V.bl true]) ln=some (.lst [V.bl true,V.bl true,V.bl true,V.bl true]):=xq;show Ph _ _ _ _ (upd H7 ln (HO.lst [V.bl true,V.bl true,V.bl true,V.bl true])) _;generalize upd H7 ln (HO.lst [V.bl true,V.bl true,V.bl true,V.bl true])=H8 at k8 h8 ⊢;refine (zr rfl (zr rfl ⟨by show 1<=sizeLine;omega,λl0 V2=>⟨l0,aT rfl rfl ⟨xq,by omega,by omega,by show 1 * _<=_;omega,λlM hM=>?_⟩⟩⟩));have k9:=(xx (o:=HO.lst [V.bl true]) V2).trans (xx (o:=HO.lst [V.bl true,V.bl true,V.bl true,V.bl true]) hM);have ZW:=Zc.trans (k8.trans k9);refine sP (l:=ln) (d:=lM) (neg:=true) (xs:=[V.bl true,V.bl true,V.bl true,V.bl true]) (λu hu0=>by simp only [zH,yW,or_false,or_self] at hu0;rw [hu0];rfl) (k9 _ _ h8) xq (zr rfl (aQ rfl ?_));exact (zr rfl (zr rfl (zr rfl (bP rfl (q _ ZW)))))
      ·have:bT (qs.map (·.2)) (NQ e x)=true:=ki wy.lR ⟨e0,le,wk⟩;rw [cm] at this;cases this
     ·have:bT (ps.map (·.2)) x=true:=ki wy.gd ⟨e0,le,wk⟩;rw [c] at this;cases this
    ·have:bT (qs.map (·.2)) (NQ e x)=true:=aL.mpr ⟨e0,fe,le⟩;rw [cm] at this;cases this
   ·have:bT (ps.map (·.2)) x=true:=aL.mpr ⟨e0,fe,le⟩;rw [c] at this;cases this
  | true=>
   rw [c] at cm;obtain ⟨m1,lm1⟩:=PY wy.gd c;obtain ⟨m2,lm2⟩:=PY wy.lR cm;refine (zr rfl (zr rfl (Rq b lt x.s x.w x.a x.z aa tr tm ps ⟨rfl,wy.hb,by omega,wy.gd,wy.hL,λno=>?_,λe0 l1 ns1 H1 fe le _ s1 _ _ _=>?_⟩)))
   ·have no:bT (ps.map (·.2)) x=false:=no;rw [c] at no;cases no
   ·have w1:=wy.br (bN.same s1);refine (zr rfl (zr rfl ⟨b',lt',x.w,x.s,e - x.z - 1,e - x.a - 1,aa,iY,eO,qs,rfl,w1.dZ,by omega,wy.lR,w1.WS,λno=>?_,λe0 l2 ns H2 fe le _ s2 _ _ _=>?_⟩))
    ·have no:bT (qs.map (·.2)) (NQ e x)=false:=no;rw [cm] at no;cases no
    ·have Oz:=s1.trans s2;have w2:=wy.br (bN.same Oz);refine (zr rfl (zr rfl (Rq b lt x.s x.w x.a x.z aa tr tm ps ⟨rfl,w2.hb,by omega,wy.gd,w2.hL,λno=>?_,λm3 l3 cs3 e3 H3 lm3 _ s3 h3 lc3 le3 wk3=>?_⟩)))
     ·exact absurd (lm1.1.symm.trans (no m1)) (λh=>by cases h)
     ·have RL:=Oz.trans s3;have w3:=wy.br (bN.same RL);refine (zr rfl (zr rfl ⟨b',lt',x.w,x.s,e - x.z - 1,e - x.a - 1,aa,iY,eO,qs,rfl,w3.dZ,by omega,wy.lR,w3.WS,λno=>?_,λm4 l4 cs4 e4 H4 lm4 _ s4 h4 lc4 le4 wk4=>?_⟩))
      ·exact absurd (lm2.1.symm.trans (no m2)) (λh=>by cases h)
      ·have s14:=RL.trans s4;have a1:=mY wy.gd wy.lR wy.tu wk3 le3 lc3 lm4;have a2:m3<=m4:=by
        refine mY wy.lR wy.gd wy.tu.symm wk4 le4 lc4 ?_;rw [show e - (e - x.a - 1) - 1=x.a by omega,show e - (e - x.z - 1) - 1=x.z by omega];exact lm3
       refine ⟨by show 4<=sizeLine;omega,λlc iA=>?_⟩;have k5:=xx (o:=HO.lst [V.ref l1,V.ref l2,V.ref l3,V.ref l4]) iA;have h5:upd H4 lc (HO.lst [V.ref l1,V.ref l2,V.ref l3,V.ref l4]) lc=some (.lst [V.ref l1,V.ref l2,V.ref l3,V.ref l4]):=xq;generalize upd H4 lc (HO.lst [V.ref l1,V.ref l2,V.ref l3,V.ref l4])=H5 at k5 h5 ⊢;have Vk:=s14.trans k5;have w5:=wy.br (bN.same Vk);have V1:=w5.hL.1;refine (zr rfl (zr rfl (cT V1 rfl (zr rfl (cT V1 rfl (zr rfl (cT V1 rfl (zr rfl (cT V1 rfl (ex9 b x.s x.w x.a x.z aa tr tm ps ⟨rfl,wy.hL.2.1,wy.hL.2.2.1,w5.hb,by omega,wy.gd,λH6 s6=>?_⟩))))))))));have c':aY (fwd (ps.map (·.2)) (aE x.s x.a) x.w) x.z=true:=c;rw [c'];have Zc:=Vk.trans s6;have h6:=s6 _ _ h5;refine (zr rfl ⟨lc,rfl,⟨_,aU.of h6⟩,?_⟩);refine (let W29:IC:=λi τ acc H7=>(∃ t0,τ=[t0])/\acc=([V.ref l1,V.ref l2,V.ref l3,V.ref l4].take i).map (λ_=>V.bl false)/\H7=H6;cU (K:=K) (a:=lc) (xs:=[V.ref l1,V.ref l2,V.ref l3,V.ref l4]) W29 ⟨⟨_,rfl⟩,rfl,rfl⟩ (by show 4<=1000;omega) ?_ ?_ ?_)
       ·rintro i τ acc H7 ⟨_,rfl,rfl⟩;exact ⟨by rw [zA,zV];omega,aU.of h6⟩
       ·rintro i v τ acc H7 C hv ⟨⟨t0,rfl⟩,rfl,rfl⟩ hC
        match i,hv with
        | 0,hv=>cases hv;exact (zr rfl (hC _ _ _ ⟨⟨_,rfl⟩,rfl,rfl⟩))
        | 1,hv=>cases hv;exact (zr rfl (hC _ _ _ ⟨⟨_,rfl⟩,rfl,rfl⟩))
        | 2,hv=>cases hv;exact (zr rfl (hC _ _ _ ⟨⟨_,rfl⟩,rfl,rfl⟩))
        | 3,hv=>cases hv;exact (zr rfl (hC _ _ _ ⟨⟨_,rfl⟩,rfl,rfl⟩))
        | i + 4,hv=>cases hv
       rintro τ acc H7 ⟨_,rfl,rfl⟩ ln Zk;have k8:=xx (o:=HO.lst [V.bl false,V.bl false,V.bl false,V.bl false]) Zk;have h8:upd H7 ln (HO.lst [V.bl false,V.bl false,V.bl false,V.bl false]) ln=some (.lst [V.bl false,V.bl false,V.bl false,V.bl false]):=xq;show Ph _ _ _ _ (upd H7 ln (HO.lst [V.bl false,V.bl false,V.bl false,V.bl false])) _;generalize upd H7 ln (HO.lst [V.bl false,V.bl false,V.bl false,V.bl false])=H8 at k8 h8 ⊢;refine (zr rfl (zr rfl ⟨by show 1<=sizeLine;omega,λl0 V2=>⟨l0,aT rfl rfl ⟨xq,by omega,by omega,by show 1 * _<=_;omega,λlM hM=>?_⟩⟩⟩));have k9:=(xx (o:=HO.lst [V.bl false]) V2).trans (xx (o:=HO.lst [V.bl false,V.bl false,V.bl false,V.bl false]) hM);have ZW:=Zc.trans (k8.trans k9);refine sP (l:=ln) (d:=lM) (neg:=true) (xs:=[V.bl false,V.bl false,V.bl false,V.bl false]) (λu hu0=>by simp only [zH,yW,or_false,or_self] at hu0;rw [hu0];rfl) (k9 _ _ h8) xq (zr rfl (aQ rfl ?_));have t9:=s6.trans (k8.trans k9);have h9:=t9 _ _ h5;refine (zr rfl (zr rfl (zr rfl (aQ rfl (zr rfl (fk h9 rfl ⟨l3,zr rfl ⟨.inl (aU.of ((k5.trans t9) _ _ (s4 _ _ h3))),zr rfl (fk h9 rfl ⟨l4,zr rfl ⟨.inl (aU.of ((k5.trans t9) _ _ h4)),rfl,?_⟩⟩)⟩⟩))))));rw [zA,zA,lc3,lc4,show m3=m4 by omega,decide_eq_true rfl];exact q _ ZW
theorem MX:aZ P w K mg base cB 8 a.GS a.Kl ["_law_script"] (t8 K a.tP dN):=by
 have GU:=JC P w base T B;have LO:=Ks P w base T B;have J9:=IE P w base T B;have LK:=Mu P w base T B;have CF:=Ef P w base T B;have Mm:=Lf P w base T B;have Ld:=JE P w base T B;have Ho:=GK P w base T B;have Mp:=Lj P w base T B;have J8:=ID P w base T B;have Jv:=Ii P w base T B;refine T.Ie.ok MH (λvs H Q E h=>?_) (λbW A outer s H vs Q E hr h=>?_)
 ·obtain ⟨_,_,rfl,_⟩:=h;rfl
 ·have nd:=MH.nd;have hu:=hr.units;obtain ⟨sa,ns,rfl,hS,hn,mt,q⟩:=h;refine cz ?_;intro Y
  let B0:Bk Y ((nb (aq DZ) 1).drop 10):=⟨_,(xw (wN (wa (PW.pt (iQ (qV (qF (wG Jv (hr.mono (by decide)) rfl T.IQ T.Ja T.Jj .nil aC (xu (xv (pv 1) (xv (pv 11) (xv (pv 8) (xv (pv 10) wH rfl) rfl) rfl) rfl))))) (eU (qV (qF (wG J8 (hr.mono (by decide)) rfl T.JI T.JM T.JQ .nil aC (xu (xv (pv 1) (xv (pv 11) (xv (pv 9) (xv (pv 8) (xv (pv 10) wH rfl) rfl) rfl) rfl) rfl)))))))) (xw (wN (wL fH))) wQ)))⟩
  let B1:Bk Y ((nb (aq DZ) 1).drop 9):=⟨_,(xw (wJ (wa (wM (uh hu) (wG Mm (hr.mono (by decide)) rfl T.LS T.LW T.L3 .nil aC (xu (xv (pv 11) (xv (pv 4) (xv (wO (wT rfl) (pv 10) xy (λ_ _=>rfl)) wH rfl) rfl) rfl))) (pv 12) (aM _)) (xw (wN (wL fH))) wQ) B0.bl))⟩
  let B2:Bk Y (nb (nb (aq DZ) 1) 8):=⟨_,(xw (wJ (wa (i7 (iz (pv 13))) (xw (wN (wI (i:=13) nd rfl rfl (wK qH (wK qH (pv 9) xy) (pv 13))))) wQ) (wN (wv (dI zj zd zf wt (pv 12) (xu (xv (pv 13) wH rfl)))))))⟩
  let B3:Bk Y ((nb (aq DZ) 1).drop 8):=⟨_,(xw (wJ (qG PassesOwn.never rfl (wn rfl (wG CF (hr.mono (by decide)) rfl T.De T.Df T.Dh .nil aC (xu (xv (pv 1) (xv (pv 4) (xv (wO (wT rfl) (pv 8) xy (λ_ _=>rfl)) wH rfl) rfl) rfl)))) (wE (i:=13) nd rfl rfl) B2.ps) B1.bl))⟩
  let B4:Bk Y ((nb (aq DZ) 1).drop 6):=⟨_,(xw (wJ (wa (PW.pt (iQ (wM (uh hu) (wG LK (hr.mono (by decide)) rfl T.Lk T.Lp T.Lv .nil aC (xu (xv (pv 1) (xv (pv 9) wH rfl) rfl))) (pv 11) (aM _)) (eU (wM (uh hu) (wG LK (hr.mono (by decide)) rfl T.Lk T.Lp T.Lv .nil aC (xu (xv (pv 11) (xv (pv 9) wH rfl) rfl))) (pv 1) (aM _))))) (xw (wN (wL fH))) wQ) (wJ (wI (i:=12) nd rfl rfl (wc qP)) B3.bl)))⟩
  let B5:Bk Y ((nb (aq DZ) 1).drop 5):=⟨_,(xw (wJ (wI (i:=11) nd rfl rfl (wG Ho (hr.mono (by decide)) rfl T.G7 T.Ha T.Hc .nil aC (xu (xv (pv 1) (xv (pv 9) wH rfl) rfl)))) B4.bl))⟩
  let B6:Bk Y ((nb (aq DZ) 1).drop 4):=⟨_,(xw (wJ (wI (i:=10) nd rfl rfl (wg (xu (xv (pv 6) (xv (wK qH (wK qH (pv 9) (wO (wT rfl) (pv 8) xy (λ_ _=>rfl))) xy) (xv (pv 4) (xv (wK qH (wK qH (pv 9) (wO (wT rfl) (pv 8) xy (λ_ _=>rfl))) xy) wH rfl) rfl) rfl) rfl)))) B5.bl))⟩
  let B7:Bk Y ((nb (aq DZ) 1).drop 3):=⟨_,(xw (wJ (wI (i:=9) nd rfl rfl (wG Mp (hr.mono (by decide)) rfl T.LV T.LZ T.L7 .nil aC (xu (xv (pv 3) (xv (pv 1) (xv (pv 8) wH rfl) rfl) rfl)))) B6.bl))⟩
  let B8:Bk Y ((nb (aq DZ) 1).drop 2):=⟨_,(xw (wJ (wI (i:=8) nd rfl rfl (wg (xu (xv (pv 4) (xv (wP (dD rfl) (by rfl) T.pK ya (xu (xv (pv 5) (xv (wK qH (wK fc xy xy) xy) wH rfl) rfl))) (xv (pv 6) (xv (wP (dD rfl) (by rfl) T.pK ya (xu (xv (pv 7) (xv (wK qH (wK fc xy xy) xy) wH rfl) rfl))) wH rfl) rfl) rfl) rfl)))) B7.bl))⟩
  let B9:Bk Y ((nb (aq DZ) 1).drop 1):=⟨_,(xw (wJ (wu (wG J9 (hr.mono (by decide)) rfl T.JJ T.JN T.JR .nil aC (xu (xv (pv 3) (xv (pv 1) wH rfl) rfl))) (wX (n:=4) rfl rfl (wD (wE (i:=4) nd rfl rfl) (wD (wE (i:=5) nd rfl rfl) (wD (wE (i:=6) nd rfl rfl) (wD (wE (i:=7) nd rfl rfl) wW)))))) B8.bl))⟩
  let B10:Bk Y (nb (aq DZ) 1):=⟨_,(xw (wJ (wI (i:=3) nd rfl rfl (wG GU (hr.mono (by decide)) rfl T.GM T.GN T.GO .nil aC (xu (xv (pv 0) (xv (pv 2) wH rfl) rfl)))) B9.bl))⟩
  let B11:Bk Y ((aq DZ).drop 1):=⟨_,(xw (wJ (qG PassesOwn.never rfl (sf rfl T.f9 (xu (xv xy (xv (wP (iD rfl) (by rfl) T.NR yz (xu (xv xy (xv (wP (dD rfl) (by rfl) T.pK ya (xu (xv xy (xv (wP (wR rfl) (by rfl) T.cH PySem.boot_len (xu (xv (pv 0) wH rfl))) wH rfl) rfl))) wH rfl) rfl))) wH rfl) rfl))) (wE (i:=2) nd rfl rfl) B10.ps) (wN (wL fH))))⟩
  refine ⟨_,(xw (wJ (wI (i:=1) nd rfl rfl (wG Ld (hr.mono (by decide)) rfl T.KA T.KJ T.KR .nil aC (xu (xv (wG LO (hr.mono (by decide)) rfl T.Lo T.Lu T.Lz .nil aC (xu (xv (wG GU (hr.mono (by decide)) rfl T.GM T.GN T.GO .nil aC (xu (xv (pv 0) (xv xy wH rfl) rfl))) (xv xy (xv xy wH rfl) rfl) rfl))) wH rfl)))) B11.bl)),?_⟩;have line:3010<=sizeLine:=by rw [sizeLine_eq];decide
  have c9:N1 10 9:=⟨by decide,by decide,by decide⟩;have e9:(10:Int) ^ Int.toNat 9=1000000000:=by decide
  refine ⟨_,rfl,sa,ns,0,rfl,hS,by decide,λp H1 hp1 pu1 s1=>?_⟩;have QV:=L2.MT.same mt s1;refine ⟨p,10,40,rfl,by decide,by decide,by decide,pu1,λb0 aa tr tm0 ps0 H2 g2 V6 ud vF PJ gd0 OH=>?_⟩;have mt2:=L2.MT.go QV pu1 g2;have sA:aG H H2:=λx u e=>g2.1 x u (wC e hp1) (s1 _ _ e);have smS:=sA.seq hS;refine ⟨b0,aa,tr,tm0,ps0,rfl,V6,gd0,λb tm ps H3 s3 hb sub lt9=>?_⟩;have gd:Good aa.length (ps.map (·.2)):=gd0.sub (sub.map _);have mt3:=L2.MT.same mt2 s3;have hS3:=s3.seq smS;have r12:aa.length<=12:=by omega
  have OH:=gd.len;clear V6 gd0 sub s3 g2 hp1 pu1 s1 QV mt2 sA;refine ⟨_,rfl,sa,_,rfl,.inl hS3,_,_,rfl,_,_,rfl,_,_,rfl,?_,?_⟩
  ·refine ⟨by decide,by decide,?_,?_⟩
   ·split <;> (try split) <;> omega
   ·rw [zA];split <;> (try split) <;> omega
  refine (let W30:IV:=λi σ H6=>(∃ v2 v3 v4 v5 v6 v7 v8 v9 v10 v11 v12 Y9,σ=[some (.ref sa),some (.ref b),v2,v3,v4,v5,v6,v7,v8,v9,v10,v11,v12,Y9])/\cL a.tP H3 H6/\MT a.tP dN kN H6;fM (lo:=3) W30 ⟨⟨_,_,_,_,_,_,_,_,_,_,_,_,rfl⟩,cL.refl _ _,mt3⟩ ?_ (fun σ H3 _=>q H3));rintro i σ H6 hi ⟨⟨v2,v3,v4,v5,v6,v7,v8,v9,v10,v11,v12,Y9,rfl⟩,b6,X5⟩;have i60:i < 900:=by
   rw [zA] at hi
   revert hi
   split <;> (try split) <;> intro h <;> omega
  have Rh:=hb.br (MT.jj mt3 b6);have hS6:=MT.seq mt3 b6 hS3;refine ⟨_,rfl,_,rfl,sa,ns,3 + i,by simp,hS6,by omega,λp3 H7 hp3 Zd s7=>?_⟩;have hb7:=Rh.same s7;refine ⟨_,rfl,_,rfl,p3,b,aa,tr,tm,ps,rfl,hb7,ud,by omega,gd,Zd,λtl s0 d1 w0 d2 H8 g8 htl s00 s01 w00 w01 d10 d11 d20 d21=>?_⟩;obtain ⟨s0,rfl⟩:=zm s00;obtain ⟨w0,rfl⟩:=zm w00;have RN:s0 < aa.length:=by omega
  have VT:w0 < aa.length:=by omega
  refine ⟨tl,_,rfl,bS.of htl,rfl,_,_,rfl,_,_,rfl,_,_,rfl,_,_,rfl,rfl,?_⟩;refine ⟨_,rfl,_,rfl,_,_,rfl,rfl,c9,_,_,rfl,rfl,_,_,rfl,_,rfl,_,rfl,_,_,rfl,rfl,c9,_,_,rfl,rfl,_,_,rfl,by show 4<=sizeLine;omega,λlt c8=>?_⟩;rw [e9];obtain ⟨a0,ea⟩:∃ a0:Int,a0=(if (1000000000 - 1:Int) < d1 then 1000000000 - 1 else d1):=⟨_,rfl⟩;obtain ⟨z0,ez⟩:∃ z0:Int,z0=(if (1000000000 - 1:Int) < d2 then 1000000000 - 1 else d2):=⟨_,rfl⟩;rw [<-ea,<- ez];have a00:0<=a0:=by rw [ea];split <;> omega
  have a09:a0 < 1000000000:=by rw [ea];split <;> omega
  have z00:0<=z0:=by rw [ez];split <;> omega
  have z09:z0 < 1000000000:=by rw [ez];split <;> omega
  clear ea ez d10 d11 d20 d21;have s9:=xx (o:=HO.tup [V.int (s0:Int),V.int a0,V.int (w0:Int),V.int z0]) c8;have k9:upd H8 lt (HO.tup [V.int (s0:Int),V.int a0,V.int (w0:Int),V.int z0]) lt=some (.tup [V.int (s0:Int),V.int a0,V.int (w0:Int),V.int z0]):=xq;generalize upd H8 lt (HO.tup [V.int (s0:Int),V.int a0,V.int (w0:Int),V.int z0])=H9 at s9 k9 ⊢;have ZU:aG H6 H8:=cL.same hp3 s7 g8.1;have s69:=ZU.trans s9;have hb9:=Rh.same s69;have pu9:=g8.2.same s9;have hL9:cQ H9 lt aa.length s0 w0 a0 z0:=⟨k9,RN,VT,a00,by omega,z00,by omega⟩;refine ⟨_,rfl,_,rfl,_,rfl,p3,b,lt,s0,w0,a0,z0,aa,tr,tm,ps,rfl,pu9,hb9,gd,lt9,hL9,a09,z09,λe Uu uE e19 ae ze te=>?_⟩;have t10:=uE.br pu9;have ZV:aG H6 Uu:=cL.same hp3 (s7.trans (aG.refl _)) (λx u n h=>uE.1 x u n (s9 _ _ (g8.1 x u n h)));have k10:=t10 _ _ k9;have te':∀ m∈ps.map (·.2),m.t < e:=λm hm=>by obtain ⟨x,hx,rfl⟩:=zK.mp hm;exact te x hx
  refine ⟨_,rfl,_,rfl,_,rfl,lt,_,_,_,rfl,rfl,bS.of k10,rfl,_,_,rfl,rfl,_,_,rfl,rfl,_,rfl,_,rfl,_,rfl,lt,_,_,_,rfl,rfl,bS.of k10,rfl,_,_,rfl,rfl,_,_,rfl,rfl,by show 4<=sizeLine;omega,λlt' aax=>?_⟩;have s11:=xx (o:=HO.tup [V.int (w0:Int),V.int (e - z0 - 1),V.int (s0:Int),V.int (e - a0 - 1)]) aax;have k11:upd Uu lt' (HO.tup [V.int (w0:Int),V.int (e - z0 - 1),V.int (s0:Int),V.int (e - a0 - 1)]) lt'=some (.tup [V.int (w0:Int),V.int (e - z0 - 1),V.int (s0:Int),V.int (e - a0 - 1)]):=xq;show dQ 10 (V.ref lt') _ (upd Uu lt' (HO.tup [V.int (w0:Int),V.int (e - z0 - 1),V.int (s0:Int),V.int (e - a0 - 1)])) _;generalize upd Uu lt' (HO.tup [V.int (w0:Int),V.int (e - z0 - 1),V.int (s0:Int),V.int (e - a0 - 1)])=H11 at s11 k11 ⊢;have XH:=ZV.trans s11;have aaL:=Rh.same XH;refine ⟨_,rfl,_,rfl,b,e,aa,tr,tm,ps,rfl,aaL,gd,e19,te',λb' eO qs Xd Oz dZ lR tu=>?_⟩;have Vj:=XH.trans Oz;have X7:=L2.MT.same X5 Vj;have aaN:Pa Xd aa.length (lt,⟨s0,w0,a0,z0⟩):=⟨Oz _ _ (s11 _ _ k10),RN,VT,a00,by show a0<=_;omega,z00,by show z0<=_;omega⟩;have WR:Pa Xd aa.length (lt',NQ e ⟨s0,w0,a0,z0⟩):=⟨Oz _ _ k11,VT,RN,by show 0<=e - z0 - 1;omega,by show e - z0 - 1<=_;omega,by show 0<=e - a0 - 1;omega,by show e - a0 - 1<=_;omega⟩;have wy:tD Xd b b' e lt lt' ⟨s0,w0,a0,z0⟩ aa tr tm ps tr eO qs:=⟨Rh.same Vj,dZ,gd,lR,tu,aaN,WR⟩;have te2:∀ m∈qs.map (·.2),m.t < e:=λm hm=>by
   obtain ⟨m0,hm0,rfl⟩:=zK.mp (tu.mem_iff.mp hm);have:=(gd.each m0 hm0).2.2.2.1;show e - m0.t < e;omega
  have b12:cL a.tP H3 Xd:=λx u n h=>Vj _ _ (b6 x u n h);clear Vj Oz dZ aaN WR XH aaL s11 k11 aax ZV k10 t10 uE s69 ZU hb9 pu9 hL9 k9 s9 c8 htl g8 hb7 s7 Zd hp3;refine ⟨_,rfl,_,rfl,b,e,aa,tr,tm,ps,rfl,wy.hb,ud,r12,PJ,gd,e19,te',X7,λb2 tr2 tm2 Z1 H13 b13 X6 lP gd2 tu2=>?_⟩;have w13:=wy.br (MT.jj X7 b13);have eqq:Z1.map (·.2)=qs.map (·.2):=gd2.eq lR (List.Perm.trans tu2 (List.Perm.symm tu));refine ⟨_,rfl,?_⟩;refine r8 (neg:=true) lP w13.dZ eqq ⟨_,rfl,aQ rfl ?_⟩;refine ⟨_,rfl,_,rfl,b',e,aa,tr,eO,qs,rfl,w13.dZ,ud,r12,PJ,lR,e19,te2,X6,λb3 tr3 tm3 ps3 H14 b14 acQ UH gd3 tu3=>?_⟩;have Zy:=w13.br (MT.jj X6 b14);have aaY:ps3.map (·.2)=ps.map (·.2):=gd3.eq gd (List.Perm.trans tu3 (List.Perm.symm tu.symm));refine ⟨_,rfl,?_⟩;refine r8 (neg:=true) UH Zy.hb aaY ⟨_,rfl,aQ rfl ?_⟩;have adR:cL a.tP H3 H14:=b12.trans (b13.trans b14);clear lP gd2 tu2 eqq UH gd3 tu3 aaY b14 b13 X6 w13 b12 X7;refine ⟨za _,λld hld=>?_⟩;have Vk:=xx (o:=HO.lst []) hld;have k15:upd H14 ld (HO.lst []) ld=some (.lst []):=xq;generalize upd H14 ld (HO.lst [])=H15 at Vk k15 ⊢;have w15:=Zy.br (bN.same Vk);refine ⟨_,rfl,_,rfl,_,rfl,lt,_,_,_,rfl,rfl,bS.of w15.hL.1,rfl,b,s0,a0,aa,tr,tm,ps,rfl,RN,w15.hb,by omega,gd,λlx H16 hlx Zc k16=>⟨lx,rfl,⟨_,aU.of k16⟩,?_⟩⟩;have nld:lx≠ld:=λz=>by rw [z,k15] at hlx;cases hlx
  refine qM (K:=K) (a:=lx) (xs:=(rep aa.length (fwd (ps.map (·.2)) (aE s0 a0))).map oV) (λj σ Xc=>(∃ Y9,σ=[some (.ref sa),some (.ref b),some (.int (3 + (i:Int))),some (.ref p3),some (.int (s0:Int)),some (.int d1),some (.int (w0:Int)),some (.int d2),some (.ref lt),some (.int e),some (.ref lt'),some (.ref b'),some (.ref ld),Y9])/\aG H14 Xc/\Xc lx=some (.lst ((rep aa.length (fwd (ps.map (·.2)) (aE s0 a0))).map oV))/\Xc ld=some (.lst (((rep aa.length (fwd (ps.map (·.2)) (aE s0 a0))).take j).map λo=>oV (o.map λy=>e - 1 - y)))) ⟨⟨_,rfl⟩,Vk.trans Zc,k16,Zc _ _ k15⟩ (λj σ Xc _ h=>aU.of h.2.2.1) ?_ ?_
  ·rintro j x σ Xc hx ⟨⟨Y9,rfl⟩,ZX,kt,kd⟩;obtain ⟨o,ho,rfl⟩:=wY hx;have lj:j < aa.length:=by have:=(zC.mp ho).1;rwa [qZ] at this
   have ln:(((rep aa.length (fwd (ps.map (·.2)) (aE s0 a0))).take j).map λo=>oV (o.map λy=>e - 1 - y)).length < sizeLine:=by rw [zA,zV];omega
   have fin:∀ v,v=oV (o.map λy=>e - 1 - y)->upd Xc ld (HO.lst ((((rep aa.length (fwd (ps.map (·.2)) (aE s0 a0))).take j).map λo=>oV (o.map λy=>e - 1 - y))++[v])) ld=some (.lst (((rep aa.length (fwd (ps.map (·.2)) (aE s0 a0))).take (j + 1)).map λo=>oV (o.map λy=>e - 1 - y))):=λv ev=>by
    rw [xq,we ho,zE,ev];rfl
   cases o with
   | none=>exact ⟨_,rfl,_,rfl,aQ rfl ⟨_,rfl,.inl ⟨rfl,_,aU.of kd⟩,_,rfl,ld,_,_,rfl,rfl,kd,ln,⟨_,rfl⟩,aG.put hld ZX,by rw [wF nld];exact kt,fin _ rfl⟩⟩
   | some y=>exact ⟨_,rfl,_,rfl,bP rfl ⟨_,rfl,_,_,rfl,rfl,_,rfl,_,_,rfl,rfl,_,rfl,.inl ⟨rfl,_,aU.of kd⟩,_,rfl,ld,_,_,rfl,rfl,kd,ln,⟨_,rfl⟩,aG.put hld ZX,by rw [wF nld];exact kt,fin _ rfl⟩⟩
  rintro σ Xc ⟨⟨Y9,rfl⟩,ZX,_,kd⟩;rw [zA,qZ,List.take_of_length_le (by rw [qZ];exact zD _)] at kd;have kd':Xc ld=some (.lst ((rep aa.length (bwd (qs.map (·.2)) s0 (e - a0 - 1))).map oV)):=by
   rw [kd];congr 2;unfold rep;rw [zo,zo];refine yH λv hv=>?_;show oV ((fwd (ps.map (·.2)) (aE s0 a0) v).map λy=>e - 1 - y)=oV (bwd (qs.map (·.2)) s0 (e - a0 - 1) v);rw [<-mX lR gd tu.symm (w:=s0) (z:=e - a0 - 1) (zh.mp hv),show e - (e - a0 - 1) - 1=a0 by omega]
  clear kd;have w17:=Zy.br (bN.same ZX);refine ⟨_,rfl,_,rfl,_,rfl,lt',_,_,_,rfl,rfl,bS.of w17.WS.1,rfl,b',s0,e - a0 - 1,aa,tr,eO,qs,rfl,w17.dZ,by omega,lR,λll H18 hll s18 k18=>?_⟩;refine ⟨_,rfl,QS k18 (s18 _ _ kd') (λx hx=>?_) ⟨_,rfl,aQ rfl ?_⟩⟩
  ·obtain ⟨o,_,rfl⟩:=zK.mp hx;cases o with
   | none=>exact ⟨rfl,rfl⟩
   | some y=>exact ⟨rfl,by show decide (y=y)=true;simp⟩
  have WB:=ZX.trans s18;have w18:=Zy.br (bN.same WB);refine ⟨_,rfl,_,rfl,_,rfl,_,rfl,b,b',e,lt,lt',⟨s0,w0,a0,z0⟩,aa,tr,tm,ps,tr,eO,qs,rfl,w18,r12,λH19 ZW=>⟨_,rfl,aQ rfl ?_⟩⟩;have Sz:=WB.trans ZW;have w19:=Zy.br (bN.same Sz);refine ⟨_,rfl,_,rfl,_,rfl,_,rfl,_,rfl,b,b',e,lt,lt',⟨s0,w0,a0,z0⟩,aa,tr,tm,ps,tr,eO,qs,rfl,w19,ud,r12,PJ,L2.MT.same acQ Sz,λH20 b20 acP=>⟨_,rfl,aQ rfl ?_⟩⟩;exact ⟨⟨_,_,_,_,_,_,_,_,_,_,_,_,rfl⟩,λx u n h=>b20 x u n (Sz _ _ (adR x u n h)),acP⟩
end
theorem all_mk {l:PySem.W.OpenLaw}{w:World}{K:PySem.W.Frag}{h:Heap}{mg:Str->Option Value}{fa KS EV FA Gq EU FB DM FC Fz Ep Gj Fv Hg Gk Hf Hh Fy EQ BU D4 Fu CI Fw Hi Ma Gg Gh D3 He Jk BW DP DA Cr Bm DB DC Fx DL Di Gn Gm En Gp EN Jl ET Ft Em EO ER Jm Gi EW EX Dj Gr Eo D5 MW tC tP Aa:Addr}(X:K.In h)(G:h.Ns mainGlobals mg)(hfa:mg "law" = some (.ref fa))
  {FK Cz C3 Dt Cy C4 A4 C5 C2 BQ Do CW DS Dp DR DT C0 Cu Ar Bo Bt Aw CY DU Hj Dk Dl Bn DQ Ew AI CD BR AY Ax BS BT CZ A3 AW Dr Dq BO Ds Cs Ex Cw CV BN Ct Cv Ey Dm CB CC AX Du BP Bp Kl:FuncData}{aA:Tok}{ak:Tok}{au:Tok}{ah:Tok}{av:Tok}
  (Eg:zI K mainGlobals "_wall" = some (some (.ref KS))) (FL:bA K "_wall" "_wall" Mr KS FK)
  (Bb:zI K mainGlobals "_law_purse" = some (some (.ref EV))) (BK:bA K "_law_purse" "_law_purse" qb EV Cz)
  (BB:zI K mainGlobals "_law_take" = some (some (.ref FA))) (Co:bA K "_law_take" "_law_take" qo FA C3)
  (Cf:zI K mainGlobals "_law_far" = some (some (.ref Gq))) (CT:bA K "_law_far" "_law_far" EG Gq Dt)
  (Ba:zI K mainGlobals "_law_rooms" = some (some (.ref EU))) (BJ:bA K "_law_rooms" "_law_rooms" qd EU Cy)
  (BC:zI K mainGlobals "_law_step" = some (some (.ref FB))) (Cp:bA K "_law_step" "_law_step" qp FB C4)
  (AA:zI K mainGlobals "_law_meetings" = some (some (.ref DM))) (AK:bA K "_law_meetings" "_law_meetings" wU DM A4)
  (BD:zI K mainGlobals "_law_book" = some (some (.ref FC))) (Cq:bA K "_law_book" "_law_book" Fo FC C5)
  (BA:zI K mainGlobals "_law_time" = some (some (.ref Fz))) (Cn:bA K "_law_time" "_law_time" qB Fz C2)
  (AO:zI K mainGlobals "_law_letter" = some (some (.ref Ep))) (Bj:bA K "_law_letter" "_law_letter" Eh Ep BQ)
  (Ca:zI K mainGlobals "is_whole" = some (some (.ref Gj))) (CM:bA K "is_whole" "is_whole" F9 Gj Do)
  (Bw:zI K mainGlobals "is_within" = some (some (.ref Fv))) (Cj:bA K "is_within" "is_within" Fl Fv CW)
  (C8:zI K mainGlobals "is_time" = some (some (.ref Hg))) (Dx:bA K "is_time" "is_time" G0 Hg DS)
  (Cb:zI K mainGlobals "is_below" = some (some (.ref Gk))) (CO:bA K "is_below" "is_below" Ga Gk Dp)
  (C7:zI K mainGlobals "is_upto" = some (some (.ref Hf))) (Dw:bA K "is_upto" "is_upto" GZ Hf DR)
  (C9:zI K mainGlobals "is_from" = some (some (.ref Hh))) (Dy:bA K "is_from" "is_from" G1 Hh DT)
  (Bz:zI K mainGlobals "are_rooms" = some (some (.ref Fy))) (Cm:bA K "are_rooms" "are_rooms" Ee Fy C0)
  (A7:zI K mainGlobals "is_meeting" = some (some (.ref EQ))) (BG:bA K "is_meeting" "is_meeting" qe EQ Cu)
  (Ah:zI K mainGlobals "meets_twice_at_once" = some (some (.ref BU))) (Ao:bA K "meets_twice_at_once" "meets_twice_at_once" wf BU Ar)
  (AG:zI K mainGlobals "lesser_first" = some (some (.ref D4))) (A0:bA K "lesser_first" "lesser_first" DX D4 Bo)
  (Bv:zI K mainGlobals "made_book" = some (some (.ref Fu))) (Ci:bA K "made_book" "made_book" qC Fu Bt)
  (Aj:zI K mainGlobals "is_meeting_number" = some (some (.ref CI))) (Ap:bA K "is_meeting_number" "is_meeting_number" qi CI Aw)
  (Bx:zI K mainGlobals "is_walker" = some (some (.ref Fw))) (Ck:bA K "is_walker" "is_walker" Fm Fw CY)
  (Da:zI K mainGlobals "by_time" = some (some (.ref Hi))) (Dz:bA K "by_time" "by_time" FG Hi DU)
  (FD:zI K mainGlobals "ways" = some (some (.ref Ma))) (Gw:bA K "ways" "ways" GY Ma Hj)
  (BX:zI K mainGlobals "other_at" = some (some (.ref Gg))) (CJ:bA K "other_at" "other_at" F8 Gg Dk)
  (BY:zI K mainGlobals "lone_row" = some (some (.ref Gh))) (CK:bA K "lone_row" "lone_row" EE Gh Dl)
  (AF:zI K mainGlobals "need_meeting" = some (some (.ref D3))) (AZ:bA K "need_meeting" "need_meeting" DW D3 Bn)
  (C6:zI K mainGlobals "without" = some (some (.ref He))) (Dv:bA K "without" "without" Et He DQ)
  (DI:zI K mainGlobals "turned" = some (some (.ref Jk))) (D8:bA K "turned" "turned" Fk Jk Ew)
  (Ai:zu K (.ref Aa) "__init__" = some (some (.ref BW))) (BV:yq K (.ref BW)=true) (Aq:bA K "__init__" "Stream.__init__" qD BW AI)
  (Be:zu K (.ref Aa) "tie" = some (some (.ref DP))) (EL:yq K (.ref DP)=true) (Bf:bA K "tie" "Stream.tie" qg DP CD)
  (AQ:zu K (.ref Aa) "sent" = some (some (.ref DA))) (Ej:yq K (.ref DA)=true) (AU:bA K "sent" "Stream.sent" Ei DA BR)
  (Au:zu K (.ref Aa) "came_to" = some (some (.ref Cr))) (Dg:yq K (.ref Cr)=true) (Av:bA K "came_to" "Stream.came_to" wr Cr AY)
  (Al:zu K (.ref Aa) "sent_along" = some (some (.ref Bm))) (CG:yq K (.ref Bm)=true) (Am:bA K "sent_along" "Stream.sent_along" qL Bm Ax)
  (AR:zu K (.ref Aa) "send" = some (some (.ref DB))) (Ek:yq K (.ref DB)=true) (AV:bA K "send" "Stream.send" qj DB BS)
  (AT:zu K (.ref Aa) "near" = some (some (.ref DC))) (El:yq K (.ref DC)=true) (Bl:bA K "near" "Stream.near" F7 DC BT)
  (By:zI K mainGlobals "is_letter" = some (some (.ref Fx))) (Cl:bA K "is_letter" "is_letter" DG Fx CZ)
  (Ay:zI K mainGlobals "first_givings" = some (some (.ref DL))) (AJ:bA K "first_givings" "first_givings" qA DL A3)
  (As:zI K mainGlobals "earliest_times" = some (some (.ref Di))) (AC:bA K "earliest_times" "earliest_times" Dc Di AW)
  (Cd:zI K mainGlobals "earliest" = some (some (.ref Gn))) (CQ:bA K "earliest" "earliest" qX Gn Dr)
  (Cc:zI K mainGlobals "giver_of" = some (some (.ref Gm))) (CP:bA K "giver_of" "giver_of" EF Gm Dq)
  (AM:zI K mainGlobals "givers_sent" = some (some (.ref En))) (Bh:bA K "givers_sent" "givers_sent" wZ En BO)
  (Ce:zI K mainGlobals "chain_by" = some (some (.ref Gp))) (CS:bA K "chain_by" "chain_by" D1 Gp Ds)
  (A5:zI K mainGlobals "two_chains" = some (some (.ref EN))) (BE:bA K "two_chains" "two_chains" qR EN Cs)
  (DJ:zI K mainGlobals "stands" = some (some (.ref Jl))) (D9:bA K "stands" "stands" qx Jl Ex)
  (A9:zI K mainGlobals "_law_times" = some (some (.ref ET))) (BI:bA K "_law_times" "_law_times" qh ET Cw)
  (Bu:zI K mainGlobals "row_after" = some (some (.ref Ft))) (Ch:bA K "row_after" "row_after" DF Ft CV)
  (AL:zI K mainGlobals "giving_rows" = some (some (.ref Em))) (Bg:bA K "giving_rows" "giving_rows" qk Em BN)
  (A6:zI K mainGlobals "meeting_at" = some (some (.ref EO))) (BF:bA K "meeting_at" "meeting_at" ED EO Ct)
  (A8:zI K mainGlobals "chain_back" = some (some (.ref ER))) (BH:bA K "chain_back" "chain_back" qz ER Cv)
  (DK:zI K mainGlobals "fewest" = some (some (.ref Jm))) (Ea:bA K "fewest" "fewest" DH Jm Ey)
  (BZ:zI K mainGlobals "leavings" = some (some (.ref Gi))) (CL:bA K "leavings" "leavings" DY Gi Dm)
  (Bc:zI K mainGlobals "_law_comes" = some (some (.ref EW))) (BL:bA K "_law_comes" "_law_comes" EH EW CB)
  (Bd:zI K mainGlobals "_law_below" = some (some (.ref EX))) (BM:bA K "_law_below" "_law_below" DO EX CC)
  (At:zI K mainGlobals "_law_other_way" = some (some (.ref Dj))) (AD:bA K "_law_other_way" "_law_other_way" wz Dj AX)
  (Cg:zI K mainGlobals "_law_end" = some (some (.ref Gr))) (CU:bA K "_law_end" "_law_end" D2 Gr Du)
  (AN:zI K mainGlobals "_law_needed" = some (some (.ref Eo))) (Bi:bA K "_law_needed" "_law_needed" qJ Eo BP)
  (AH:zI K mainGlobals "_law_as_many" = some (some (.ref D5))) (A2:bA K "_law_as_many" "_law_as_many" w8 D5 Bp)
  (GS:zI K mainGlobals "law" = some (some (.ref MW))) (Ie:bA K "law" "law" DZ MW Kl)
  (z_all:zI K mainGlobals "all" = some none)
  (z_bool:zI K mainGlobals "bool" = some none)
  (z_enumerate:zI K mainGlobals "enumerate" = some none)
  (z_int:zI K mainGlobals "int" = some none)
  (z_isinstance:zI K mainGlobals "isinstance" = some none)
  (z_len:zI K mainGlobals "len" = some none)
  (z_list:zI K mainGlobals "list" = some none)
  (z_max:zI K mainGlobals "max" = some none)
  (z_min:zI K mainGlobals "min" = some none)
  (z_range:zI K mainGlobals "range" = some none)
  (z_set:zI K mainGlobals "set" = some none)
  (z_sorted:zI K mainGlobals "sorted" = some none)
  (z_tuple:zI K mainGlobals "tuple" = some none)
  (g_LAST_TIME:zI K mainGlobals "LAST_TIME" = some (some (.int 1000000000 aA)))
  (g_MOST_WALKERS:zI K mainGlobals "MOST_WALKERS" = some (some (.int 12 ak)))
  (g_MOST_ROOM:zI K mainGlobals "MOST_ROOM" = some (some (.int 99 au)))
  (g_MOST_MEETINGS:zI K mainGlobals "MOST_MEETINGS" = some (some (.int 60 ah)))
  (g_MOST_MANY:zI K mainGlobals "MOST_MANY" = some (some (.int 99 av)))
  (Jn:zI K mainGlobals "Stream" = some (some (.ref Aa)))
  (G3:xZ K Aa Str.empty=true) (Hd:PySem.W.hasDictIn K Aa=true) (G2:PySem.W.plainOver K Aa=true) (GX:zu K (.ref Aa) "__setattr__" = some (some (.builtin "object.__setattr__")))
  (G5:PySem.W.makesIn K Aa=true) (G8:zF K (.ref Aa)=true)
  (nf_Stream_source:zu K (.ref Aa) "source" = some none)
  (nf_Stream_arcs:zu K (.ref Aa) "arcs" = some none)
  (nf_Stream_ends:zu K (.ref Aa) "ends" = some none)
  (nf_Stream_spare:zu K (.ref Aa) "spare" = some none)
  (h_cd:Bt.code=.ref tC) (h_hd:PySem.W.codeHdIn K tC tP=true) :
  ∃ fd:FuncData,(∃ c,PySem.W.codeHdIn K c tP=true)/\(∀ (s:Shared) (v:Value),BindsTo s fd ⟨[v],[]⟩ [("_law_script", v)])/\∀ base:Heap,K.In base->base.Ns mainGlobals mg->bq mg base->aZ l.prog w K mg base cB 8 fa fd ["_law_script"] (t8 K tP dN):=by
 have e:=hfa.symm.trans (zL X G GS);cases e;have MV:=FL.binds (ps:=["k"]) λ_ _ _ _ _ _ us hl=>RJ hl λ_=>rfl;have K2:=BK.binds (ps:=["_law_script", "_law_k"]) λ_ _ _ _ _ _ us hl=>kq hl λ_ _=>rfl;have LH:=Co.binds (ps:=["_law_purse_here", "_law_many"]) λ_ _ _ _ _ _ us hl=>kq hl λ_ _=>rfl;have Mj:=CT.binds (ps:=["_law_purse_here"]) λ_ _ _ _ _ _ us hl=>RJ hl λ_=>rfl;have K1:=BJ.binds (ps:=["_law_purse_here", "_law_walkers"]) λ_ _ _ _ _ _ us hl=>kq hl λ_ _=>rfl;have LI:=Cp.binds (ps:=["_law_purse_here"]) λ_ _ _ _ _ _ us hl=>RJ hl λ_=>rfl;have Io:=AK.binds (ps:=["_law_purse_here", "_law_walkers", "_law_most"]) λ_ _ _ _ _ _ us hl=>vq hl λ_ _ _=>rfl;have LJ:=Cq.binds (ps:=["_law_purse_here", "_law_most_walkers", "_law_most_meetings"]) λ_ _ _ _ _ _ us hl=>vq hl λ_ _ _=>rfl;have LG:=Cn.binds (ps:=["_law_purse_here", "_law_book_here", "_law_later"]) λ_ _ _ _ _ _ us hl=>vq hl λ_ _ _=>rfl;have JX:=Bj.binds (ps:=["_law_purse_here", "_law_book_here"]) λ_ _ _ _ _ _ us hl=>kq hl λ_ _=>rfl;have Me:=CM.binds (ps:=["thing"]) λ_ _ _ _ _ _ us hl=>RJ hl λ_=>rfl;have LC:=Cj.binds (ps:=["thing", "least", "most"]) λ_ _ _ _ _ _ us hl=>vq hl λ_ _ _=>rfl;have MD:=Dx.binds (ps:=["thing"]) λ_ _ _ _ _ _ us hl=>RJ hl λ_=>rfl;have Mf:=CO.binds (ps:=["number", "bound"]) λ_ _ _ _ _ _ us hl=>kq hl λ_ _=>rfl;have MC:=Dw.binds (ps:=["number", "bound"]) λ_ _ _ _ _ _ us hl=>kq hl λ_ _=>rfl;have ME:=Dy.binds (ps:=["number", "bound"]) λ_ _ _ _ _ _ us hl=>kq hl λ_ _=>rfl;have LF:=Cm.binds (ps:=["thing"]) λ_ _ _ _ _ _ us hl=>RJ hl λ_=>rfl;have KY:=BG.binds (ps:=["walkers", "thing"]) λ_ _ _ _ _ _ us hl=>kq hl λ_ _=>rfl;have Fc:=Ao.binds (ps:=["meetings"]) λ_ _ _ _ _ _ us hl=>RJ hl λ_=>rfl;have Jp:=A0.binds (ps:=["meeting"]) λ_ _ _ _ _ _ us hl=>RJ hl λ_=>rfl;have LB:=Ci.binds (ps:=["rooms", "meetings"]) λ_ _ _ _ _ _ us hl=>kq hl λ_ _=>rfl;have FQ:=Ap.binds (ps:=["book", "thing"]) λ_ _ _ _ _ _ us hl=>kq hl λ_ _=>rfl;have LD:=Ck.binds (ps:=["book", "thing"]) λ_ _ _ _ _ _ us hl=>kq hl λ_ _=>rfl;have MF:=Dz.binds (ps:=["book", "time"]) λ_ _ _ _ _ _ us hl=>kq hl λ_ _=>rfl;have MY:=Gw.binds (ps:=["book"]) λ_ _ _ _ _ _ us hl=>RJ hl λ_=>rfl;have Mb:=CJ.binds (ps:=["book", "number", "walker"]) λ_ _ _ _ _ _ us hl=>vq hl λ_ _ _=>rfl;have Mc:=CK.binds (ps:=["book", "walker", "number"]) λ_ _ _ _ _ _ us hl=>vq hl λ_ _ _=>rfl;have Jo:=AZ.binds (ps:=["book", "meeting"]) λ_ _ _ _ _ _ us hl=>kq hl λ_ _=>rfl;have MB:=Dv.binds (ps:=["book", "meeting"]) λ_ _ _ _ _ _ us hl=>kq hl λ_ _=>rfl;have MK:=D8.binds (ps:=["book", "end"]) λ_ _ _ _ _ _ us hl=>kq hl λ_ _=>rfl;have GR:=Aq.binds (ps:=["self", "many"]) λ_ _ _ _ _ _ us hl=>kq hl λ_ _=>rfl;have K5:=Bf.binds (ps:=["self", "here", "there", "most"]) λ_ _ _ _ _ _ us hl=>us4 hl λ_ _ _ _=>rfl;have JY:=AU.binds (ps:=["self", "tie"]) λ_ _ _ _ _ _ us hl=>kq hl λ_ _=>rfl;have Hm:=Av.binds (ps:=["self", "goal"]) λ_ _ _ _ _ _ us hl=>kq hl λ_ _=>rfl;have FR:=Am.binds (ps:=["self", "came", "goal"]) λ_ _ _ _ _ _ us hl=>vq hl λ_ _ _=>rfl;have JZ:=AV.binds (ps:=["self", "source", "goal"]) λ_ _ _ _ _ _ us hl=>vq hl λ_ _ _=>rfl;have J0:=Bl.binds (ps:=["self"]) λ_ _ _ _ _ _ us hl=>RJ hl λ_=>rfl;have LE:=Cl.binds (ps:=["book", "thing"]) λ_ _ _ _ _ _ us hl=>kq hl λ_ _=>rfl;have Im:=AJ.binds (ps:=["book", "sender", "since"]) λ_ _ _ _ _ _ us hl=>vq hl λ_ _ _=>rfl;have Hk:=AC.binds (ps:=["book", "sender", "since"]) λ_ _ _ _ _ _ us hl=>vq hl λ_ _ _=>rfl;have Mh:=CQ.binds (ps:=["book", "letter"]) λ_ _ _ _ _ _ us hl=>kq hl λ_ _=>rfl;have Mg:=CP.binds (ps:=["meeting", "sent"]) λ_ _ _ _ _ _ us hl=>kq hl λ_ _=>rfl;have JV:=Bh.binds (ps:=["book", "letter"]) λ_ _ _ _ _ _ us hl=>kq hl λ_ _=>rfl;have Mi:=CS.binds (ps:=["book", "letter", "givers"]) λ_ _ _ _ _ _ us hl=>vq hl λ_ _ _=>rfl;have KU:=BE.binds (ps:=["book", "letter"]) λ_ _ _ _ _ _ us hl=>kq hl λ_ _=>rfl;have ML:=D9.binds (ps:=["book", "letter"]) λ_ _ _ _ _ _ us hl=>kq hl λ_ _=>rfl;have K0:=BI.binds (ps:=["_law_book_here", "_law_sender", "_law_since"]) λ_ _ _ _ _ _ us hl=>vq hl λ_ _ _=>rfl;have LA:=Ch.binds (ps:=["book", "row"]) λ_ _ _ _ _ _ us hl=>kq hl λ_ _=>rfl;have JU:=Bg.binds (ps:=["book", "sender", "since"]) λ_ _ _ _ _ _ us hl=>vq hl λ_ _ _=>rfl;have KW:=BF.binds (ps:=["book", "walker", "time"]) λ_ _ _ _ _ _ us hl=>vq hl λ_ _ _=>rfl;have KZ:=BH.binds (ps:=["book", "rows", "wish"]) λ_ _ _ _ _ _ us hl=>vq hl λ_ _ _=>rfl;have MM:=Ea.binds (ps:=["book", "letter"]) λ_ _ _ _ _ _ us hl=>kq hl λ_ _=>rfl;have Md:=CL.binds (ps:=["book", "wish", "last"]) λ_ _ _ _ _ _ us hl=>vq hl λ_ _ _=>rfl;have K3:=BL.binds (ps:=["_law_book_here", "_law_sender", "_law_since", "_law_wish", "_law_last"]) λ_ _ _ _ _ _ us hl=>us5 hl λ_ _ _ _ _=>rfl;have K4:=BM.binds (ps:=["_law_book_here"]) λ_ _ _ _ _ _ us hl=>RJ hl λ_=>rfl;have Hl:=AD.binds (ps:=["_law_book_here", "_law_end_here"]) λ_ _ _ _ _ _ us hl=>kq hl λ_ _=>rfl;have Ml:=CU.binds (ps:=["_law_purse_here", "_law_book_here", "_law_letter_here"]) λ_ _ _ _ _ _ us hl=>vq hl λ_ _ _=>rfl;have JW:=Bi.binds (ps:=["_law_book_here", "_law_behind", "_law_end_here", "_law_letter_here", "_law_back"]) λ_ _ _ _ _ _ us hl=>us5 hl λ_ _ _ _ _=>rfl;have Jq:=A2.binds (ps:=["_law_book_here", "_law_behind", "_law_letter_here", "_law_back"]) λ_ _ _ _ _ _ us hl=>us4 hl λ_ _ _ _=>rfl;have M1:=Ie.binds (ps:=["_law_script"]) λ_ _ _ _ _ _ us hl=>RJ hl λ_=>rfl;have T:Tx K mg ⟨KS,FK,EV,Cz,FA,C3,Gq,Dt,EU,Cy,FB,C4,DM,A4,FC,C5,Fz,C2,Ep,BQ,Gj,Do,Fv,CW,Hg,DS,Gk,Dp,Hf,DR,Hh,DT,Fy,C0,EQ,Cu,BU,Ar,D4,Bo,Fu,Bt,CI,Aw,Fw,CY,Hi,DU,Ma,Hj,Gg,Dk,Gh,Dl,D3,Bn,He,DQ,Jk,Ew,BW,AI,DP,CD,DA,BR,Cr,AY,Bm,Ax,DB,BS,DC,BT,Fx,CZ,DL,A3,Di,AW,Gn,Dr,Gm,Dq,En,BO,Gp,Ds,EN,Cs,Jl,Ex,ET,Cw,Ft,CV,Em,BN,EO,Ct,ER,Cv,Jm,Ey,Gi,Dm,EW,CB,EX,CC,Dj,AX,Gr,Du,Eo,BP,D5,Bp,fa,Kl,tC,tP,Aa⟩ aA ak au ah av:=⟨FL,MV,zL X G Eg,FL.kp,BK,K2,zL X G Bb,BK.kp,Co,LH,zL X G BB,Co.kp,CT,Mj,zL X G Cf,CT.kp,BJ,K1,zL X G Ba,BJ.kp,Cp,LI,zL X G BC,Cp.kp,AK,Io,zL X G AA,AK.kp,Cq,LJ,zL X G BD,Cq.kp,Cn,LG,zL X G BA,Cn.kp,Bj,JX,zL X G AO,Bj.kp,CM,Me,zL X G Ca,CM.kp,Cj,LC,zL X G Bw,Cj.kp,Dx,MD,zL X G C8,Dx.kp,CO,Mf,zL X G Cb,CO.kp,Dw,MC,zL X G C7,Dw.kp,Dy,ME,zL X G C9,Dy.kp,Cm,LF,zL X G Bz,Cm.kp,BG,KY,zL X G A7,BG.kp,Ao,Fc,zL X G Ah,Ao.kp,A0,Jp,zL X G AG,A0.kp,Ci,LB,zL X G Bv,Ci.kp,Ap,FQ,zL X G Aj,Ap.kp,Ck,LD,zL X G Bx,Ck.kp,Dz,MF,zL X G Da,Dz.kp,Gw,MY,zL X G FD,Gw.kp,CJ,Mb,zL X G BX,CJ.kp,CK,Mc,zL X G BY,CK.kp,AZ,Jo,zL X G AF,AZ.kp,Dv,MB,zL X G C6,Dv.kp,D8,MK,zL X G DI,D8.kp,Aq,GR,⟨Ai,BV,Aq.kp⟩,Aq.kp,Bf,K5,⟨Be,EL,Bf.kp⟩,Bf.kp,AU,JY,⟨AQ,Ej,AU.kp⟩,AU.kp,Av,Hm,⟨Au,Dg,Av.kp⟩,Av.kp,Am,FR,⟨Al,CG,Am.kp⟩,Am.kp,AV,JZ,⟨AR,Ek,AV.kp⟩,AV.kp,Bl,J0,⟨AT,El,Bl.kp⟩,Bl.kp,Cl,LE,zL X G By,Cl.kp,AJ,Im,zL X G Ay,AJ.kp,AC,Hk,zL X G As,AC.kp,CQ,Mh,zL X G Cd,CQ.kp,CP,Mg,zL X G Cc,CP.kp,Bh,JV,zL X G AM,Bh.kp,CS,Mi,zL X G Ce,CS.kp,BE,KU,zL X G A5,BE.kp,D9,ML,zL X G DJ,D9.kp,BI,K0,zL X G A9,BI.kp,Ch,LA,zL X G Bu,Ch.kp,Bg,JU,zL X G AL,Bg.kp,BF,KW,zL X G A6,BF.kp,BH,KZ,zL X G A8,BH.kp,Ea,MM,zL X G DK,Ea.kp,CL,Md,zL X G BZ,CL.kp,BL,K3,zL X G Bc,BL.kp,BM,K4,zL X G Bd,BM.kp,AD,Hl,zL X G At,AD.kp,CU,Ml,zL X G Cg,CU.kp,Bi,JW,zL X G AN,Bi.kp,A2,Jq,zL X G AH,A2.kp,Ie,M1,zL X G GS,Ie.kp,yA X G z_all,yA X G z_bool,yA X G z_enumerate,yA X G z_int,yA X G z_isinstance,yA X G z_len,yA X G z_list,yA X G z_max,yA X G z_min,yA X G z_range,yA X G z_set,yA X G z_sorted,yA X G z_tuple,h_hd,h_cd,zL X G Jn,⟨G3,Hd,G2,GX⟩,⟨G5,Ai,BV,G8⟩,nf_Stream_source,nf_Stream_arcs,nf_Stream_ends,nf_Stream_spare,zL X G g_LAST_TIME,zL X G g_MOST_WALKERS,zL X G g_MOST_ROOM,zL X G g_MOST_MEETINGS,zL X G g_MOST_MANY⟩;obtain ⟨_,_,_,_,_,_,_,_,_,rfl,_,_⟩:=Ie.ex;exact ⟨_,⟨tC,h_hd⟩,λs v=>.of_eq rfl,λbase _ _ B=>MX _ _ base T B⟩
theorem walk {l:PySem.W.OpenLaw}{q:Program}{loose:List Str}{XP:(Str->Option Value)->Heap->Prop}{YP:World->Heap->Prop}{d:DefRec}{K:Params->PySem.W.Frag}{T:Addr}(hn:l.most=some 63)(hdf:d.params.defaults=[])
  (hY:∀ (w:World) (h:Heap),YP w h->(K w.params).In h/\h.get? T=some (PySem.W.tabObj #[])) (nt:∀ w:World,PySem.W.noTabs (K w.params)=true)
  (F:∀ (w:World) (mg:Str->Option Value) (fa:Addr) (h:Heap),(K w.params).In h->h.Ns mainGlobals mg->mg d.name=some (.ref fa) ->
   ∃ fd:FuncData,(∃ c,PySem.W.codeHdIn (K w.params) c T=true)/\(∀ (s:Shared) (u:Value),BindsTo s fd ⟨[u],[]⟩ [("_law_script", u)])/\∀ base:Heap,(K w.params).In base->base.Ns mainGlobals mg->bq mg base->aZ l.prog w (K w.params) mg base cB 8 fa fd ["_law_script"] (t8 (K w.params) T dN)) :
  PySem.W.WalkO q loose XP YP l.row.toRowW d [] (λf vs=>PySem.call f vs):=
 L2.R1 (n:=63) (k:=8) (x := "_law_script") (CX:=λ_=>cB) (sp:=λw=>t8 (K w.params) T dN) hn (by decide) hdf ⟨rfl,by decide,by decide,rfl⟩ hY nt F (λ_ _ a ns hl hT hS=>⟨a,ns,rfl,hS,hl,.inl hT,λ_=>rfl⟩) λ_ _ _ _ _ z=>z
end Sm
namespace PySem.W.Fast
def tw11817937542127993382:Nat:=0
def tw2613944905854774671:Nat:=0
def tw4881570734634103513:Nat:=0
def tw13384259797459740234:Nat:=0
def tw5890822156471224381:Nat:=0
def tw14200091802337031500:Nat:=0
def tw10806980950847461496:Nat:=0
def tw4615814628477420547:Nat:=0
def tw16352503541648378525:Nat:=0
def tw17236817489792637929:Nat:=0
def tw11313381514889717541:Nat:=0
def tw18066659611923483164:Nat:=0
def tw14747289130579063482:Nat:=0
def tw15961410520912138739:Nat:=0
def tw13415042266031918643:Nat:=0
def tw8711018963858432086:Nat:=0
def tw13179816235640576804:Nat:=0
def tw8601981092121492998:Nat:=0
def tw16654765868750947625:Nat:=0
def tw5668032302921893390:Nat:=0
def tw12306702488692588867:Nat:=0
def tw17645997513454484690:Nat:=0
def tw13448386294406285843:Nat:=0
def tw4265018321785140423:Nat:=0
def tw8950014944977535932:Nat:=0
def tw10012038837008234400:Nat:=0
def tw18218740427434619190:Nat:=0
def tw10624316482931147258:Nat:=0
def tw16948630409952016602:Nat:=0
def tw9660336130926319271:Nat:=0
def tw11966945333941218659:Nat:=0
def tw8667948596579123975:Nat:=0
def tw11049304837707979674:Nat:=0
def tw7033611831497547867:Nat:=0
def tw9356919775899921867:Nat:=0
def tw7628524026020017629:Nat:=0
def tw16984713396395380501:Nat:=0
def tw16973989459904799257:Nat:=0
def tw4128673804890058373:Nat:=0
def tw2411418964556766974:Nat:=0
def tw4479536637572462496:Nat:=0
def tw13981615717727879310:Nat:=0
def tw17152765801919918217:Nat:=0
def tw9563573011110868628:Nat:=0
def tw8435638514006848026:Nat:=0
def tw6663640244948228067:Nat:=0
def tw629417659635113977:Nat:=0
def tw13500071936973455932:Nat:=0
def tw11421169679695717450:Nat:=0
def tw2905125868522517494:Nat:=0
def tw11499062229657732602:Nat:=0
def tw2385884996678188317:Nat:=0
def tw6889258454375350123:Nat:=0
def tw8829905552452972780:Nat:=0
def tw10662685148060605448:Nat:=0
def tw863507260230678751:Nat:=0
def tw14712369747521237579:Nat:=0
def tw17774625690253644290:Nat:=0
def tw2523709270426120449:Nat:=0
def tw4918664692315761395:Nat:=0
def tw17443192209299319730:Nat:=0
def tw15324343156957264571:Nat:=0
def tw10689683226446220024:Nat:=0
def tw5791211216792870288:Nat:=0
def tw4277232272092394263:Nat:=0
def tw14220482565729958224:Nat:=0
def tw7399293247226324104:Nat:=0
def tw11857484269694346084:Nat:=0
def tw7633689702451513448:Nat:=0
def tw12626937741972668536:Nat:=0
def tw6953975056260295033:Nat:=0
def tw15046763752406581633:Nat:=0
def tw17654936731016545443:Nat:=0
def tw1960364701913744346:Nat:=0
def tw6702194084973775707:Nat:=0
def tw12977368691056975626:Nat:=0
def tw3317783170630865055:Nat:=0
def tw3986320479140870640:Nat:=0
def tw2056725052303414098:Nat:=0
def tw14212740883480196553:Nat:=0
def tw10761926666019266555:Nat:=0
def tw1496732739643044531:Nat:=0
def tw6811757098825069611:Nat:=0
def tw10137311754372546045:Nat:=0
def tw14275220182682420557:Nat:=0
def tw1145370335563950442:Nat:=0
def tw11495206354346631111:Nat:=0
def tw13800367553572856999:Nat:=0
def tw13591787339717157242:Nat:=0
def tw6856320979330193460:Nat:=0
def tw2392859965795408294:Nat:=0
def tw11905409075740439555:Nat:=0
def tw1391384151346709361:Nat:=0
def tw7201849338201464842:Nat:=0
def tw15174984813475715161:Nat:=0
def tw10974527566693561579:Nat:=0
def tw6921588718007455107:Nat:=0
def tw8139930114414924691:Nat:=0
def tw18293902091779218609:Nat:=0
def tw11993672097963766444:Nat:=0
def tw12950612669463744488:Nat:=0
def tw11047407745033301305:Nat:=0
def tw3395138205636848647:Nat:=0
def tw16570657163244122173:Nat:=0
def tw11329621515975033983:Nat:=0
def tw16356348373637552859:Nat:=0
def tw8660262833261692460:Nat:=0
def tw11519545752809640613:Nat:=0
def tw17900903893726273816:Nat:=0
def tw1499101950634820346:Nat:=0
def tw4189512691986183804:Nat:=0
def tw1683464878276807983:Nat:=0
def tw14624337194124833587:Nat:=0
def tw16636582804926890570:Nat:=0
def tw8039681441065631167:Nat:=0
def tw17927893671275683603:Nat:=0
def tw15003199849737793825:Nat:=0
def tw16279305775789151924:Nat:=0
def tw17346534594792744056:Nat:=0
def tw7279280244161188552:Nat:=0
def tw9763114646062411002:Nat:=0
def tw10145484089744628768:Nat:=0
def tw12247048248835277679:Nat:=0
def tw13272470972139413881:Nat:=0
def tw12928095602270559637:Nat:=0
def tw14366555176894492925:Nat:=0
def tw13093022002767141546:Nat:=0
def tw10592803841874669910:Nat:=0
def tw2453886984791803548:Nat:=0
def tw12175050274963832083:Nat:=0
def tw15375059065906233794:Nat:=0
def tw13010151347118799684:Nat:=0
def tw10024648598100764075:Nat:=0
def tw5003831134592487335:Nat:=0
def tw175299150575543391:Nat:=0
def tw16983806819669920091:Nat:=0
def tw12342623782929015107:Nat:=0
def tw2128188050405799695:Nat:=0
def tw16137437606771985781:Nat:=0
def tw11691914943872023891:Nat:=0
def tw5659456885235374617:Nat:=0
def tw15839091587803194452:Nat:=0
def tw7233346625553779596:Nat:=0
def tw5374025021900225357:Nat:=0
def tw14733554496333724814:Nat:=0
def tw14437038625771574923:Nat:=0
def tw8036319478571819316:Nat:=0
def tw1508981876582509523:Nat:=0
def tw13504405874014773533:Nat:=0
def tw4929408942565055555:Nat:=0
def tw6840404369422278600:Nat:=0
def tw9780420971413220038:Nat:=0
def tw6067236321192356678:Nat:=0
end PySem.W.Fast
open PySem PySem.W PyProof.Rows
set_option maxRecDepth 100000 in
set_option maxHeartbeats 0 in
theorem PySem.Challenge.cw_satchelmeet_k92_whole_turned_in_time_holds : PySem.Challenge.rw_satchelmeet_k92_whole_turned_in_time.Holds := by
 w_on;o_law;k_head;(case hw=>w_witness2)
 k_fill
 refine Sm.walk (l:=PySem.Challenge.rw_satchelmeet_k92_whole_turned_in_time) rfl rfl (λw h Y=>⟨PySem.W.km_in_of Y,PySem.W.km_tabs_of Y _ (List.Mem.head _)⟩) (λw=>by kernel_rfl) ?F
 case F=>
  intro w mg fa h KX G hmg
  refine' Sm.all_mk KX G hmg ?Eg ?FL ?Bb ?BK ?BB ?Co ?Cf ?CT ?Ba ?BJ ?BC ?Cp ?AA ?AK ?BD ?Cq ?BA ?Cn ?AO ?Bj ?Ca ?CM ?Bw ?Cj ?C8 ?Dx ?Cb ?CO ?C7 ?Dw ?C9 ?Dy ?Bz ?Cm ?A7 ?BG ?Ah ?Ao ?AG ?A0 ?Bv ?Ci ?Aj ?Ap ?Bx ?Ck ?Da ?Dz ?FD ?Gw ?BX ?CJ ?BY ?CK ?AF ?AZ ?C6 ?Dv ?DI ?D8 ?Ai ?BV ?Aq ?Be ?EL ?Bf ?AQ ?Ej ?AU ?Au ?Dg ?Av ?Al ?CG ?Am ?AR ?Ek ?AV ?AT ?El ?Bl ?By ?Cl ?Ay ?AJ ?As ?AC ?Cd ?CQ ?Cc ?CP ?AM ?Bh ?Ce ?CS ?A5 ?BE ?DJ ?D9 ?A9 ?BI ?Bu ?Ch ?AL ?Bg ?A6 ?BF ?A8 ?BH ?DK ?Ea ?BZ ?CL ?Bc ?BL ?Bd ?BM ?At ?AD ?Cg ?CU ?AN ?Bi ?AH ?A2 ?GS ?Ie ?z_all ?z_bool ?z_enumerate ?z_int ?z_isinstance ?z_len ?z_list ?z_max ?z_min ?z_range ?z_set ?z_sorted ?z_tuple ?g_LAST_TIME ?g_MOST_WALKERS ?g_MOST_ROOM ?g_MOST_MEETINGS ?g_MOST_MANY ?Jn ?G3 ?Hd ?G2 ?GX ?G5 ?G8 ?nf_Stream_source ?nf_Stream_arcs ?nf_Stream_ends ?nf_Stream_spare ?h_cd ?h_hd
  (case Jn|Eg|Bb|BB|Cf|Ba|BC|AA|BD|BA|AO|Ca|Bw|C8|Cb|C7|C9|Bz|A7|Ah|AG|Bv|Aj|Bx|Da|FD|BX|BY|AF|C6|DI|Ai|BV|Be|EL|AQ|Ej|Au|Dg|Al|CG|AR|Ek|AT|El|By|Ay|As|Cd|Cc|AM|Ce|A5|DJ|A9|Bu|AL|A6|A8|DK|BZ|Bc|Bd|At|Cg|AN|AH|GS|z_all|z_bool|z_enumerate|z_int|z_isinstance|z_len|z_list|z_max|z_min|z_range|z_set|z_sorted|z_tuple|g_LAST_TIME|g_MOST_WALKERS|g_MOST_ROOM|g_MOST_MEETINGS|g_MOST_MANY|G3|Hd|G2|GX|G5|G8|nf_Stream_source|nf_Stream_arcs|nf_Stream_ends|nf_Stream_spare=>k_is)
  (case FL=>refine' L2.fun_mk ?x1 ?y1 ?z1;(case x1|y1|z1=>k_is))
  (case BK=>refine' L2.fun_mk ?x3 ?y3 ?z3;(case x3|y3|z3=>k_is))
  (case Co=>refine' L2.fun_mk ?x5 ?y5 ?z5;(case x5|y5|z5=>k_is))
  (case CT=>refine' L2.fun_mk ?x7 ?y7 ?z7;(case x7|y7|z7=>k_is))
  (case BJ=>refine' L2.fun_mk ?x9 ?y9 ?z9;(case x9|y9|z9=>k_is))
  (case Cp=>refine' L2.fun_mk ?x11 ?y11 ?z11;(case x11|y11|z11=>k_is))
  (case AK=>refine' L2.fun_mk ?x13 ?y13 ?z13;(case x13|y13|z13=>k_is))
  (case Cq=>refine' L2.fun_mk ?x15 ?y15 ?z15;(case x15|y15|z15=>k_is))
  (case Cn=>refine' L2.fun_mk ?x17 ?y17 ?z17;(case x17|y17|z17=>k_is))
  (case Bj=>refine' L2.fun_mk ?x19 ?y19 ?z19;(case x19|y19|z19=>k_is))
  (case CM=>refine' L2.fun_mk ?x21 ?y21 ?z21;(case x21|y21|z21=>k_is))
  (case Cj=>refine' L2.fun_mk ?x23 ?y23 ?z23;(case x23|y23|z23=>k_is))
  (case Dx=>refine' L2.fun_mk ?x25 ?y25 ?z25;(case x25|y25|z25=>k_is))
  (case CO=>refine' L2.fun_mk ?x27 ?y27 ?z27;(case x27|y27|z27=>k_is))
  (case Dw=>refine' L2.fun_mk ?x29 ?y29 ?z29;(case x29|y29|z29=>k_is))
  (case Dy=>refine' L2.fun_mk ?x31 ?y31 ?z31;(case x31|y31|z31=>k_is))
  (case Cm=>refine' L2.fun_mk ?x33 ?y33 ?z33;(case x33|y33|z33=>k_is))
  (case BG=>refine' L2.fun_mk ?x35 ?y35 ?z35;(case x35|y35|z35=>k_is))
  (case Ao=>refine' L2.fun_mk ?x37 ?y37 ?z37;(case x37|y37|z37=>k_is))
  (case A0=>refine' L2.fun_mk ?x39 ?y39 ?z39;(case x39|y39|z39=>k_is))
  (case Ci=>refine' L2.fun_mk ?x41 ?y41 ?z41;(case x41|y41|z41=>k_is))
  (case Ap=>refine' L2.fun_mk ?x43 ?y43 ?z43;(case x43|y43|z43=>k_is))
  (case Ck=>refine' L2.fun_mk ?x45 ?y45 ?z45;(case x45|y45|z45=>k_is))
  (case Dz=>refine' L2.fun_mk ?x47 ?y47 ?z47;(case x47|y47|z47=>k_is))
  (case Gw=>refine' L2.fun_mk ?x49 ?y49 ?z49;(case x49|y49|z49=>k_is))
  (case CJ=>refine' L2.fun_mk ?x51 ?y51 ?z51;(case x51|y51|z51=>k_is))
  (case CK=>refine' L2.fun_mk ?x53 ?y53 ?z53;(case x53|y53|z53=>k_is))
  (case AZ=>refine' L2.fun_mk ?x55 ?y55 ?z55;(case x55|y55|z55=>k_is))
  (case Dv=>refine' L2.fun_mk ?x57 ?y57 ?z57;(case x57|y57|z57=>k_is))
  (case D8=>refine' L2.fun_mk ?x59 ?y59 ?z59;(case x59|y59|z59=>k_is))
  (case Aq=>refine' L2.fun_mk ?x62 ?y62 ?z62;(case x62|y62|z62=>k_is))
  (case Bf=>refine' L2.fun_mk ?x65 ?y65 ?z65;(case x65|y65|z65=>k_is))
  (case AU=>refine' L2.fun_mk ?x68 ?y68 ?z68;(case x68|y68|z68=>k_is))
  (case Av=>refine' L2.fun_mk ?x71 ?y71 ?z71;(case x71|y71|z71=>k_is))
  (case Am=>refine' L2.fun_mk ?x74 ?y74 ?z74;(case x74|y74|z74=>k_is))
  (case AV=>refine' L2.fun_mk ?x77 ?y77 ?z77;(case x77|y77|z77=>k_is))
  (case Bl=>refine' L2.fun_mk ?x80 ?y80 ?z80;(case x80|y80|z80=>k_is))
  (case Cl=>refine' L2.fun_mk ?x82 ?y82 ?z82;(case x82|y82|z82=>k_is))
  (case AJ=>refine' L2.fun_mk ?x84 ?y84 ?z84;(case x84|y84|z84=>k_is))
  (case AC=>refine' L2.fun_mk ?x86 ?y86 ?z86;(case x86|y86|z86=>k_is))
  (case CQ=>refine' L2.fun_mk ?x88 ?y88 ?z88;(case x88|y88|z88=>k_is))
  (case CP=>refine' L2.fun_mk ?x90 ?y90 ?z90;(case x90|y90|z90=>k_is))
  (case Bh=>refine' L2.fun_mk ?x92 ?y92 ?z92;(case x92|y92|z92=>k_is))
  (case CS=>refine' L2.fun_mk ?x94 ?y94 ?z94;(case x94|y94|z94=>k_is))
  (case BE=>refine' L2.fun_mk ?x96 ?y96 ?z96;(case x96|y96|z96=>k_is))
  (case D9=>refine' L2.fun_mk ?x98 ?y98 ?z98;(case x98|y98|z98=>k_is))
  (case BI=>refine' L2.fun_mk ?x100 ?y100 ?z100;(case x100|y100|z100=>k_is))
  (case Ch=>refine' L2.fun_mk ?x102 ?y102 ?z102;(case x102|y102|z102=>k_is))
  (case Bg=>refine' L2.fun_mk ?x104 ?y104 ?z104;(case x104|y104|z104=>k_is))
  (case BF=>refine' L2.fun_mk ?x106 ?y106 ?z106;(case x106|y106|z106=>k_is))
  (case BH=>refine' L2.fun_mk ?x108 ?y108 ?z108;(case x108|y108|z108=>k_is))
  (case Ea=>refine' L2.fun_mk ?x110 ?y110 ?z110;(case x110|y110|z110=>k_is))
  (case CL=>refine' L2.fun_mk ?x112 ?y112 ?z112;(case x112|y112|z112=>k_is))
  (case BL=>refine' L2.fun_mk ?x114 ?y114 ?z114;(case x114|y114|z114=>k_is))
  (case BM=>refine' L2.fun_mk ?x116 ?y116 ?z116;(case x116|y116|z116=>k_is))
  (case AD=>refine' L2.fun_mk ?x118 ?y118 ?z118;(case x118|y118|z118=>k_is))
  (case CU=>refine' L2.fun_mk ?x120 ?y120 ?z120;(case x120|y120|z120=>k_is))
  (case Bi=>refine' L2.fun_mk ?x122 ?y122 ?z122;(case x122|y122|z122=>k_is))
  (case A2=>refine' L2.fun_mk ?x124 ?y124 ?z124;(case x124|y124|z124=>k_is))
  (case Ie=>refine' L2.fun_mk ?x126 ?y126 ?z126;(case x126|y126|z126=>k_is))
  (case h_cd=>rfl)
  (case h_hd=>kernel_rfl)

