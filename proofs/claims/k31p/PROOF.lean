import PyProof.Rows.All
import Wide.All
import OpenK.AllK
import Wide.FinOn
import Lean
import PyProof.EqAt
import PyProof.EqKinds
import PyProof.TupleCall
import KE.KDictOf
import PyProof.AttrMissHeap
import PyProof.StrWalks
import PyProof.StrBlockI
import PyProof.FString5
import PyProof.SetRoads
import PyProof.SetNew
import PyProof.TupleKey
import PyProof.InstEq
import PySem.SetOps
import KE.KTryMore
import PyProof.NsDelKeeps
import KE.KIsAll
import KE.KItemsList
import KE.KSortTup
import KE.KDictSum
import KE.KLam
import KE.KNestM
import KE.KSortTup
import PySem.Challenge.RW_satchelmeet_k31_whole_stands_any_missed
open List renaming length_map → zA,getElem?_eq_some_iff → zB,mem_of_getElem? → zC,length_append → zE,mem_singleton → zF,mem_cons → zH,map_append → zK,getElem?_eq_getElem → zL,size_toArray → zM,mem_append_right → zP,mem_map → zQ,getElem?_map → zS,mem_append → zT,getElem?_append_left → zV,length_cons → zW,length_take → zX,getElem?_append_right → zY,nodup_cons → ze,mem_cons_of_mem → zf,getElem_mem → zj,mem_range → zl,map_cons → zm,append_nil → zn,pairwise_iff_getElem → zp,take_length → zu,mem_append_left → zx,getElem?_of_mem → zy,mem_cons_self → z4,length_singleton → z6,map_map → yA,getElem?_cons_succ → yB,eraseIdx_of_length_le → yC,length_range → yD,getElem?_cons_zero → yE,length_nil → yH,pairwise_map → yL,eraseIdx_sublist → yM,map_congr_left → yR,set_cons_zero → yV,set_cons_succ → yW,map_nil → yb,cons_append → yc,lookup_cons → ye,not_mem_nil → yf,mem_filterMap → yh,filterMap_cons → yk,getElem_of_mem → yl,getElem?_range → yn,length_drop → yo,all_eq_true → yp,take_succ → yq,lookup → yr,find?_cons → yx,range_succ → yy,nil_append → yz,any_cons → xB,append_assoc → xC,mem_flatMap → xI,length_set → xO
open Nat renaming le_refl → zD,lt_of_lt_of_le → zR,ne_of_lt → zU,zero_le → zc,le_trans → z8,lt_irrefl → yF,not_lt_zero → yI,ne_of_gt → yN,succ_mul → yQ,lt_succ_iff → yT,lt_succ_of_lt → yY,le_succ → yu,le_of_lt → xF,lt_succ_self → xH,sub_self → xJ,reduceAdd → xL,reduceSub → xM,zero_add → xQ,mul_comm → xR
open PySem.W renaming keepIn → zG,nsIn → zI,mg_of → zO,findIn → zg,mg_none_of → zo,kia_one → yG,emptyDict → yK,instObj → yZ,isFn → ya,plainGet → xG,fnOf → xP
open Bool renaming false_ne_true → zJ,false_eq_true → zb,false_and → yX,and_eq_true → yd,eq_iff_iff → yw,and_false → xD,true_and → xK
open PySem.F renaming slot_list_append → zZ,type_list_append → za,plainAttrs_list → zd
open Int renaming toNat_natCast → zh,eq_ofNat_of_zero_le → zk,le_refl → zq,toNat_of_nonneg → yS,emod_lt_of_pos → yU,emod_nonneg → yj,mul_zero → xT,zero_add → xU
open PyProof.Rows renaming boot_isinstance → zw,boot_tuple → yO,callWith_type1 → yP,boot_min → yi
open PySem renaming mem_of_lookup → yJ
open Option renaming map_some → xN
set_option Elab.async false
set_option linter.all false
set_option maxRecDepth 100000
set_option maxHeartbeats 4000000
namespace L2
open PySem PySem.Spec PyProof.Rows
abbrev Key:=Sum Int Str
def keyIs:Key->Value->Bool
 | .inl k,v=>Value.isInt k v
 | .inr x,v=>Value.isStrOf x v
def keyH (w:World):Key->Int
 | .inl k=>hashInt k
 | .inr x=>hashStr w x
theorem wE:∀ {k:Key}{v:Value},keyIs k v=true->(∃ i t,k=Sum.inl i/\v=Value.int i t)\/(∃ x t,k=Sum.inr x/\v=Value.str x t)
 | .inl i,v,h=>by
  obtain ⟨t,e⟩:=Value.isInt_shape (k:=i) (v:=v) h
  exact .inl ⟨i,t,rfl,e⟩
 | .inr x,v,h=>by
  obtain ⟨t,e⟩:=Value.isStrOf_shape (x:=x) (v:=v) h
  exact .inr ⟨x,t,rfl,e⟩
theorem keyIs_int (i:Int) (t:Tok):keyIs (.inl i) (.int i t)=true:=by simp [keyIs,Value.isInt]
theorem keyIs_str (x:Str) (t:Tok):keyIs (.inr x) (.str x t)=true:=by simp [keyIs,Value.isStrOf]
theorem key_ll (a b:Int):decide ((Sum.inl a:Key)=Sum.inl b)=(a == b):=by
 by_cases e:a=b
 ·subst e;simp
 ·have h:¬ (Sum.inl a:Key)=Sum.inl b:=λq=>e (Sum.inl.inj q)
  rw [decide_eq_false h]
  exact (beq_eq_false_iff_ne.mpr e).symm
theorem key_rr (a b:Str):decide ((Sum.inr a:Key)=Sum.inr b)=decide (a=b):=by
 by_cases e:a=b
 ·subst e;simp
 ·have h:¬ (Sum.inr a:Key)=Sum.inr b:=λq=>e (Sum.inr.inj q)
  rw [decide_eq_false h,decide_eq_false e]
theorem key_lr (a:Int) (b:Str):decide ((Sum.inl a:Key)=Sum.inr b)=false:=decide_eq_false (λq=>nomatch q)
theorem key_rl (a:Str) (b:Int):decide ((Sum.inr a:Key)=Sum.inl b)=false:=decide_eq_false (λq=>nomatch q)
def mixKind (prog:Program) (w:World):PySem.KeyKind prog w Key where
 is:=keyIs
 hash:=keyH w
 inj:=λv a b ha hb=>by
  rcases wE ha with ⟨i,t,rfl,rfl⟩ | ⟨x,t,rfl,rfl⟩
  ·rcases wE hb with ⟨j,u,rfl,e⟩ | ⟨y,u,rfl,e⟩
   ·injection e with e1 _;rw [e1]
   ·exact nomatch e
  ·rcases wE hb with ⟨j,u,rfl,e⟩ | ⟨y,u,rfl,e⟩
   ·exact nomatch e
   ·injection e with e1 _;rw [e1]
 byValue:=λk v h=>by
  rcases wE h with ⟨i,t,rfl,rfl⟩ | ⟨x,t,rfl,rfl⟩ <;> rfl
 pyHash:=λhv h=>by
  rcases wE hv with ⟨i,t,rfl,rfl⟩ | ⟨x,t,rfl,rfl⟩
  ·exact wpAny_pyHash_int h
  ·exact wpAny_pyHash_str h
 eqBool:=λhu hv h=>by
  rcases wE hu with ⟨i,t,rfl,rfl⟩ | ⟨x,t,rfl,rfl⟩
  ·rcases wE hv with ⟨j,u,rfl,rfl⟩ | ⟨y,u,rfl,rfl⟩
   ·rw [key_ll] at h;exact wpAny_eqBool_int h
   ·rw [key_lr] at h;exact SeqAt.EqAt.int_str i t y u _ _ _ _ h
  ·rcases wE hv with ⟨j,u,rfl,rfl⟩ | ⟨y,u,rfl,rfl⟩
   ·rw [key_rl] at h;exact SeqAt.EqAt.str_int x t j u _ _ _ _ h
   ·rw [key_rr] at h;exact wpAny_eqBool_str h
 «strs»:=λk x t v h=>by
  rcases wE h with ⟨i,u,rfl,e⟩ | ⟨y,u,rfl,e⟩
  ·exact nomatch e
  ·injection e with e1 _
   subst e1
   cases v <;> rfl
theorem mixKind_int (prog:Program) (w:World) (i:Int) (t:Tok):(mixKind prog w).is (.inl i) (.int i t)=true:=keyIs_int i t
theorem mixKind_str (prog:Program) (w:World) (x:Str) (t:Tok):(mixKind prog w).is (.inr x) (.str x t)=true:=keyIs_str x t
end L2
namespace L2
open PySem PySem.Spec PyProof.Rows
inductive V where
 | non | bl (b:Bool) | int (i:Int) | str (x:Str) | byt (b:Array UInt8) | flt (b:UInt64) | ref (a:Addr) | ty (n:String)
 deriving DecidableEq
def RelV:V->Value->Prop
 | .non,u=>u=Value.none
 | .bl b,u=>u=Value.bool b
 | .int i,u=>∃ t,u=Value.int i t
 | .str x,u=>∃ t,u=Value.str x t
 | .byt b,u=>∃ t,u=Value.bytes b t
 | .flt b,u=>∃ t,u=Value.float b t
 | .ref a,u=>u=Value.ref a
 | .ty n,u=>u=Value.type n
abbrev Vals:List V->List Value->Prop:=Paired RelV
theorem Vals.length {xs:List V}{us:List Value} (r:Vals xs us):xs.length=us.length:=Paired.length r
theorem Vals.get:∀ {xs:List V}{us:List Value}{i:Nat}{x:V},Vals xs us->xs[i]?=some x->∃ u,us[i]?=some u/\RelV x u
 | _,_,_,_,.nil,e=>by simp at e
 | _,_,0,_,.cons r _,e=>by simp at e;subst e;exact ⟨_,rfl,r⟩
 | _,_,i + 1,x,.cons _ t,e=>by
  obtain ⟨u,h1,h2⟩:=Vals.get (i:=i) (x:=x) t (by simpa using e)
  exact ⟨u,by simpa using h1,h2⟩
theorem Vals.set {x:V}{u:Value} (r:RelV x u):∀ {xs:List V}{us:List Value} (i:Nat),Vals xs us->Vals (xs.set i x) (us.set i u)
 | _,_,_,.nil=>.nil
 | _,_,0,.cons _ t=>.cons r t
 | _,_,i + 1,.cons q t=>.cons q (Vals.set r i t)
theorem Vals.append:∀ {xs ys:List V}{us ws:List Value},Vals xs us->Vals ys ws->Vals (xs++ys) (us++ws)
 | _,_,_,_,.nil,s=>s
 | _,_,_,_,.cons r t,s=>.cons r (Vals.append t s)
theorem Vals.take:∀ {xs:List V}{us:List Value} (n:Nat),Vals xs us->Vals (xs.take n) (us.take n)
 | _,_,0,_=>.nil
 | _,_,_ + 1,.nil=>.nil
 | _,_,n + 1,.cons r t=>.cons r (Vals.take n t)
theorem Vals.drop:∀ {xs:List V}{us:List Value} (n:Nat),Vals xs us->Vals (xs.drop n) (us.drop n)
 | _,_,0,r=>r
 | _,_,_ + 1,.nil=>.nil
 | _,_,n + 1,.cons _ t=>Vals.drop n t
def RelO:Option V->Option Value->Prop
 | some v,some u=>RelV v u
 | none,none=>True
 | _,_=>False
def KV {κ:Type}:List (κ×V)->List (κ×Value)->Prop:=Paired λ(p:κ×V) (q:κ×Value)=>p.1=q.1/\RelV p.2 q.2
def kV:Key->V
 | .inl i=>.int i
 | .inr x=>.str x
inductive HO where
  | lst (xs:List V)
  | tup (xs:List V)
  | dK (kvs:List (Key×V)) | dT (kvs:List (List Key×V))
  | set (S:Int->Bool) (n:Nat)
  | ins (C dx:Addr) (fs:List (Str×V))
  | own (x:Addr)
  | xd (fs:List (Str×V))
  | met (f x:Addr)
  | rng (lo hi:Int)
  | frz (o:Obj) (u:HO)
  | tbl (ps:Array Value)
  | ext (φ:Heap->Prop)
abbrev Hp:=Addr->Option HO
def upd (H:Hp) (a:Addr) (o:HO):Hp:=λb=>if b=a then some o else H b
theorem xW {H:Hp}{a:Addr}{o:HO}:upd H a o a=some o:=by unfold upd;rw [if_pos rfl]
theorem xb {H:Hp}{a b:Addr}{o:HO} (h:b≠a):upd H a o b=H b:=by unfold upd;rw [if_neg h]
theorem ne_of {H:Hp}{a b:Addr}{o u:HO} (h:H a=some o) (h':H b=some u) (d:o≠u):a≠b:=by
 intro e;subst e;rw [h] at h';exact d (Option.some.inj h')
theorem xZ {H:Hp}{a b:Addr}{o:HO} (h:H a=some o) (h':H b=none):a≠b:=by
 intro e;subst e;rw [h] at h';cases h'
theorem new_bare {h:Heap}{o:Obj} (hf:o.isFreed=false:=by rfl) (hd:o.dict=none:=by rfl):∀ ob,(h.push o).get? h.objs.size=some ob->ob.dict=none:=λob e=>by
 rw [Heap.get?_push_size h hf] at e;cases e;exact hd
section
variable (P:Program) (w:World)
def ObjOk (H:Hp) (h:Heap) (a:Addr):HO->Prop
 | .lst xs=>xs.length<=sizeLine/\∃ (its:List Value) (n:Nat),Vals xs its/\h.get? a=some { cls:=.type "list", data:=.seq its.toArray n }
 | .tup xs=>(xs.length<=sizeLine/\∀ ob,h.get? a=some ob->ob.dict=none)/\∃ its:List Value,Vals xs its/\IsTup h a its.toArray
 | .dK kvs=>kvs.length<=sizeLine/\(a == sysModules)=false/\∃ vs,KV kvs vs/\h.DictOf (mixKind P w) a vs
 | .dT kvs=>kvs.length<=sizeLine/\(a == sysModules)=false/\∃ xs:List (List Key×Addr×Value),
   Paired (λ(p:List Key×V) (q:List Key×Addr×Value)=>p.1=q.1/\H q.2.1=some (.tup (p.1.map kV))/\RelV p.2 q.2.2) kvs xs /\
   ∃ o es ep,h.get? a=some o/\o.ExactDict/\o.data=.dict es ep/\es.toList=xs.map (entryOfKey (tupleKind (mixKind P w)))/\(xs.map (·.1)).Nodup
 | .set S n=>h.SetOf (intKind P w) a S n
 | .ins C dx fs=>H dx=some (.own a)/\fs.length<=1000/\dx≠a/\h.get? a=some (yZ C dx) /\
   ∃ mA,h.Ns1 dx mA/\(∀ f,RelO (fs.lookup f) (mA f))/\PySem.Within mA (fs.map (·.1))
 | .own _=>∃ o,h.get? a=some o
 | .xd fs=>∃ mA,h.Ns1 a mA/\∀ f,RelO (fs.lookup f) (mA f)
 | .rng lo hi=>∃ t u v,h.get? a=some { cls:=.type "range", data:=.fields #[.int lo t,.int hi u,.int 1 v] }
 | .frz o u=>h.get? a=some o/\ObjOk H h a u
 | .tbl ps=>h.get? a=some { cls:=.none,data:=.fields ps }
 | .met f x=>h.get? a=some (PySem.W.methodObj (.ref f) (.ref x))
 | .ext φ=>φ h/\(∃ o,h.get? a=some o)/\∀ h1 h2:Heap,φ h1->(∀ o,h1.get? a=some o->h2.get? a=some o)->φ h2
def HOk (H:Hp) (h:Heap):Prop:=∀ a o,H a=some o->ObjOk P w H h a o
end
section
variable {P:Program}{w:World}{H H':Hp}{h h':Heap}{a:Addr}{o:HO}
theorem ObjOk.lt (x:ObjOk P w H h a o):a < h.objs.size:=by
 cases o with
 | lst xs=>obtain ⟨_,_,_,_,e⟩:=x;exact Heap.lt_size e
 | tup xs=>obtain ⟨_,_,_,p⟩:=x;exact p.lt
 | dK kvs=>obtain ⟨_,_,_,_,o,_,_,e,_⟩:=x;exact Heap.lt_size e
 | dT kvs=>obtain ⟨_,_,_,_,o,_,_,e,_⟩:=x;exact Heap.lt_size e
 | set S n=>obtain ⟨o,_,_,_,e,_⟩:=x;exact Heap.lt_size e
 | ins C dx fs=>obtain ⟨_,_,_,e,_⟩:=x;exact Heap.lt_size e
 | own y=>obtain ⟨_,e⟩:=x;exact Heap.lt_size e
 | xd fs=>obtain ⟨_,⟨_,_,_,e,_⟩,_⟩:=x;exact Heap.lt_size e
 | rng lo hi=>obtain ⟨_,_,_,e⟩:=x;exact Heap.lt_size e
 | frz ob u=>obtain ⟨e,_⟩:=x;exact Heap.lt_size e
 | tbl ps=>exact Heap.lt_size (show h.get? a=some _ from x)
 | met f y=>exact Heap.lt_size (show h.get? a=some _ from x)
 | ext φ=>obtain ⟨_,⟨_,e⟩,_⟩:=x;exact Heap.lt_size e
theorem Paired.mapP {α β:Type}{F G:α->β->Prop}:∀ {l₁:List α}{l₂:List β},Paired F l₁ l₂->(∀ a b,F a b->G a b)->Paired G l₁ l₂
 | _,_,.nil,_=>.nil
 | _,_,.cons r t,f=>.cons (f _ _ r) (Paired.mapP t f)
theorem ObjOk.stay (x:ObjOk P w H h a o) (k:∀ b u,(b=a\/H b=some (.own a))->h.get? b=some u->h'.get? b=some u)
  (ho:∀ b,H b=some (.own a)->H' b=some (.own a)) (ht:∀ b xs,H b=some (.tup xs)->H' b=some (.tup xs)):ObjOk P w H' h' a o:=by
 induction o with
 | lst xs=>obtain ⟨z,its,n,r,e⟩:=x;exact ⟨z,its,n,r,k _ _ (.inl rfl) e⟩
 | tup xs=>obtain ⟨z,its,r,ob,e,c⟩:=x;exact ⟨⟨z.1,λob' e'=>by rw [k _ _ (.inl rfl) e] at e';cases e';exact z.2 _ e⟩,its,r,ob,k _ _ (.inl rfl) e,c⟩
 | dK kvs=>obtain ⟨z,y,vs,r,ob,es,ep,e,c⟩:=x;exact ⟨z,y,vs,r,ob,es,ep,k _ _ (.inl rfl) e,c⟩
 | dT kvs=>
  obtain ⟨z,y,xs,r,ob,es,ep,e,c⟩:=x
  exact ⟨z,y,xs,Paired.mapP r λp q z=>⟨z.1,ht _ _ z.2.1,z.2.2⟩,ob,es,ep,k _ _ (.inl rfl) e,c⟩
 | set S n=>obtain ⟨ob,es,ep,t,e,c⟩:=x;exact ⟨ob,es,ep,t,k _ _ (.inl rfl) e,c⟩
 | ins C dx fs=>
  obtain ⟨d,z,ne,e,mA,⟨od,es,ep,e2,c⟩,r⟩:=x
  exact ⟨ho _ d,z,ne,k _ _ (.inl rfl) e,mA,⟨od,es,ep,k _ _ (.inr d) e2,c⟩,r⟩
 | own y=>obtain ⟨ob,e⟩:=x;exact ⟨ob,k _ _ (.inl rfl) e⟩
 | xd fs=>obtain ⟨mA,⟨od,es,ep,e,c⟩,r⟩:=x;exact ⟨mA,⟨od,es,ep,k _ _ (.inl rfl) e,c⟩,r⟩
 | rng lo hi=>obtain ⟨t,u,v,e⟩:=x;exact ⟨t,u,v,k _ _ (.inl rfl) e⟩
 | frz ob u ih=>obtain ⟨e,q⟩:=x;exact ⟨k _ _ (.inl rfl) e,ih q⟩
 | tbl ps=>
  have e:h.get? a=some { cls:=.none,data:=.fields ps }:=x
  show h'.get? a=some { cls:=.none,data:=.fields ps }
  exact k a _ (.inl rfl) e
 | met f y=>
  have e:h.get? a=some (PySem.W.methodObj (.ref f) (.ref y)):=x
  show h'.get? a=some (PySem.W.methodObj (.ref f) (.ref y))
  exact k a _ (.inl rfl) e
 | ext φ=>obtain ⟨p,⟨o,e⟩,st⟩:=x;exact ⟨st _ _ p λo q=>k _ _ (.inl rfl) q,⟨o,k _ _ (.inl rfl) e⟩,st⟩
theorem HOk.lt (x:HOk P w H h) (e:H a=some o):a < h.objs.size:=(x a o e).lt
theorem HOk.fresh (x:HOk P w H h) (e:h.objs.size<=a):H a=none:=by
 cases q:H a with
 | none=>rfl
 | some u=>exact absurd (zR (x.lt q) e) (yF _)
theorem HOk.kept (x:HOk P w H h) (k:∀ b u,h.get? b=some u->h'.get? b=some u):HOk P w H h':=λa o e=>
 (x a o e).stay (λb u _ q=>k b u q) (λ_ q=>q) λ_ _ q=>q
theorem HOk.laid (x:HOk P w H h) (k:∀ b u,h.get? b=some u->h'.get? b=some u) (hp:h.objs.size<=a) (new:ObjOk P w (upd H a o) h' a o):HOk P w (upd H a o) h':=λb u e=>by
 have hn:=x.fresh hp
 by_cases hb:b=a
 ·subst hb;rw [xW] at e;cases e;exact new
 ·rw [xb hb] at e
  exact (x b u e).stay (λc v _ q=>k c v q) (λc q=>by rw [xb (xZ q hn)];exact q) λc xs q=>by rw [xb (xZ q hn)];exact q
end
def Rd (H:Hp) (a:Addr) (u:HO):Prop:=H a=some u\/∃ o,H a=some (.frz o u)
theorem Rd.ok {P:Program}{w:World}{H:Hp}{h:Heap}{a:Addr}{u:HO} (r:Rd H a u) (x:HOk P w H h):ObjOk P w H h a u:=by
 rcases r with r | ⟨o,r⟩
 ·exact x a u r
 ·obtain ⟨_,q⟩:=x a _ r
  exact q
def Mut:Option HO->Prop
 | some (.lst _)=>True
 | some (.dK _)=>True
 | some (.dT _)=>True
 | some (.set _ _)=>True
 | some (.ins _ _ _)=>True
 | some (.ext _)=>True
 | _=>False
section
variable {P:Program}{w:World}{H:Hp}{h h':Heap}{x e:Addr}{o':HO}
theorem HOk.write (ok:HOk P w H h) (mu:Mut (H x)) (he:e=x\/H e=some (.own x)) (k:∀ b u,b≠e->h.get? b=some u->h'.get? b=some u) (heo:∃ u,h'.get? e=some u)
  (new:ObjOk P w (upd H x o') h' x o'):HOk P w (upd H x o') h':=λb u q=>by
 have nown:∀ c y,H c=some (.own y)->c≠x:=λc y r z=>by subst z;rw [r] at mu;exact mu
 have ntup:∀ c xs,H c=some (.tup xs)->c≠x:=λc xs r z=>by subst z;rw [r] at mu;exact mu
 by_cases hb:b=x
 ·subst hb;rw [xW] at q;cases q;exact new
 ·rw [xb hb] at q
  by_cases hbe:b=e
  ·have q':H b=some (.own x):=by
    rcases he with z | z
    ·exact absurd (hbe.trans z) hb
    ·rw [hbe];exact z
   rw [q] at q';cases q'
   obtain ⟨v,hv⟩:=heo
   exact ⟨v,by rw [hbe];exact hv⟩
  ·refine (ok b u q).stay (λc v hc r=>k c v ?_ r) (λc r=>by rw [xb (nown c b r)];exact r) λc xs r=>by rw [xb (ntup c xs r)];exact r
   rcases hc with rfl | hc
   ·exact hbe
   ·rintro rfl
    rcases he with z | z
    ·exact nown c b hc z
    ·rw [hc] at z;cases z;exact hb rfl
end
structure Un (fs ex:List Addr) (H H':Hp) (h h':Heap):Prop where
 keep:∀ b o,h.get? b=some o->H b=none->b ∉ fs->b ∉ ex->h'.get? b=some o
 slot:∀ b o,h.get? b=some o->H b=none->b∈fs->b ∉ ex->∃ sl,h'.get? b=some { o with slots:=sl }
 free:∀ b o,h.get? b=some o->H b=none->b ∉ ex->H' b=none
 there:∀ b o,h.get? b=some o->b ∉ ex->∃ o',h'.get? b=some o'
 tups:∀ b xs,H b=some (.tup xs)->H' b=some (.tup xs)
 frzs:∀ b o u,H b=some (.frz o u)->H' b=some (.frz o u)
 tbls:∀ b ps,H b=some (.tbl ps)->∃ more,H' b=some (.tbl (ps++more))
section
variable {fs fs' ex ex':List Addr} {H H1 H2:Hp} {h h1 h2 h':Heap}{a x e:Addr}{o:HO}
theorem Un.any (u:Un fs ex H H1 h h1) {b:Addr}{ob:Obj} (q:h.get? b=some ob) (n:H b=none) (hx:b ∉ ex):∃ sl,h1.get? b=some { ob with slots:=sl }:=by
 by_cases hb:b∈fs
 ·exact u.slot b ob q n hb hx
 ·exact ⟨ob.slots,u.keep b ob q n hb hx⟩
theorem Un.kept (k:∀ b u,h.get? b=some u->h'.get? b=some u):Un fs ex H H h h':=
 ⟨λb ob q _ _ _=>k b ob q,λb ob q _ _ _=>⟨ob.slots,k b ob q⟩,λ_ _ _ n _=>n,λb ob q _=>⟨ob,k b ob q⟩,λ_ _ q=>q,λ_ _ _ q=>q,λ_ ps q=>⟨#[],by rw [q];simp⟩⟩
theorem Un.refl:Un fs ex H H h h:=Un.kept λ_ _ q=>q
theorem Un.laid (k:∀ b u,h.get? b=some u->h'.get? b=some u) (hp:h.objs.size<=a) (hn:H a=none):Un fs ex H (upd H a o) h h' where
 keep:=λb u q _ _ _=>k b u q
 slot:=λb u q _ _ _=>⟨u.slots,k b u q⟩
 free:=λb u q n _=>by rw [xb (zU (zR (Heap.lt_size q) hp))];exact n
 there:=λb u q _=>⟨u,k b u q⟩
 tups:=λb xs q=>by rw [xb (xZ q hn)];exact q
 frzs:=λb u xs q=>by rw [xb (xZ q hn)];exact q
 tbls:=λb ps q=>⟨#[],by rw [xb (xZ q hn),q];simp⟩
theorem Un.write (mu:Mut (H x)) (he:e=x\/H e=some (.own x)) (k:∀ b u,b≠e->h.get? b=some u->h'.get? b=some u) (heo:∃ u,h'.get? e=some u):Un fs ex H (upd H x o) h h':=by
 have hx:∀ b,H b=none->b≠x:=λb n z=>by subst z;rw [n] at mu;exact mu
 have hb:∀ b,H b=none->b≠e:=λb n z=>by
  subst z
  rcases he with r | r
  ·exact hx b n r
  ·rw [n] at r;cases r
 have hm:∀ b u,H b=some u->¬ Mut (some u)->b≠x:=λb u q nm z=>by subst z;rw [q] at mu;exact nm mu
 refine ⟨λb u q n _ _=>k b u (hb b n) q,λb u q n _ _=>⟨u.slots,k b u (hb b n) q⟩,λb u q n _=>by rw [xb (hx b n)];exact n,λb u q _=>?_,
  λb xs q=>by rw [xb (hm b _ q λz=>z)];exact q,λb u xs q=>by rw [xb (hm b _ q λz=>z)];exact q,λb ps q=>⟨#[],by rw [xb (hm b _ q λz=>z),q];simp⟩⟩
 by_cases hbe:b=e
 ·subst hbe;exact heo
 ·exact ⟨u,k b u hbe q⟩
end
def trk (h:Heap) (H:Hp):List Addr:=(List.range h.objs.size).filter λa=>(H a).isSome
def hidT (h:Heap) (H:Hp):Heap:=PySem.W.hideAll h (trk h H)
theorem hidT_size (h:Heap) (H:Hp):(hidT h H).objs.size=h.objs.size:=PySem.W.hideAll_size _ _
theorem hidT_get {h:Heap}{H:Hp}{b:Addr}{o:Obj} (e:h.get? b=some o) (n:H b=none):(hidT h H).get? b=some o:=
 PySem.W.hideAll_get _ e λhm=>by
  have q:(H b).isSome=true:=(List.mem_filter.mp hm).2
  rw [n] at q;simp at q
theorem of_hidT {h:Heap}{H:Hp}{b:Addr}{o:Obj} (e:(hidT h H).get? b=some o):h.get? b=some o/\H b=none:=by
 have e':h.get? b=some o:=PySem.W.of_hideAll (trk h H) e
 refine ⟨e',?_⟩
 cases q:H b with
 | none=>rfl
 | some x=>
  have hm:b∈trk h H:=List.mem_filter.mpr ⟨zl.mpr (Heap.lt_size e'),by simp [q]⟩
  have z:(hidT h H).get? b=none:=PySem.W.hideAll_none (trk h H) hm
  rw [z] at e;cases e
def allNews (g h:Heap) (L:Addr):List (Addr×Obj):=(List.range h.objs.size).filterMap λa=>if a=L\/(g.get? a).isSome=true then none else (h.get? a).map λo=>(a,o)
theorem mem_allNews {g h:Heap}{L a:Addr}{o:Obj} (h1:a≠L) (h2:g.get? a=none) (h3:h.get? a=some o):(a,o)∈allNews g h L:=
 yh.mpr ⟨a,zl.mpr (Heap.lt_size h3),by simp [h1,h2,h3]⟩
theorem of_mem_allNews {g h:Heap}{L:Addr}{p:Addr×Obj} (hp:p∈allNews g h L):p.1≠L/\g.get? p.1=none/\h.get? p.1=some p.2:=by
 obtain ⟨b,_,e⟩:=yh.mp hp
 split at e
 ·cases e
 ·rename_i hn
  cases q:h.get? b with
  | none=>rw [q] at e;simp at e
  | some u=>
   rw [q] at e
   simp only [xN,Option.some.injEq] at e
   subst e
   refine ⟨λz=>hn (.inl z),?_,q⟩
   show g.get? b=none
   cases r:g.get? b with
   | none=>rfl
   | some v=>exact (hn (.inr (by simp [r]))).elim
def rest (g h:Heap) (L d:Addr):List (Addr×Obj):=(allNews g h L).filter λp=>decide (p.1≠d)
theorem news_all {g h:Heap}{L:Addr}:News g L h (allNews g h L):=λp hp=>let ⟨a,b,c⟩:=of_mem_allNews hp;⟨c,a,b⟩
end L2
namespace L2
open PySem PySem.Spec PyProof.Rows
structure Mod (K:PySem.W.Frag) (mg:Str->Option Value) (base:Heap):Prop where
 kin:K.In base
 glob:base.Ns mainGlobals mg
 blt:∃ mb,base.Ns builtinsNs mb/\∀ x:Str,x ≠ "__name__" -> mb x=bootBuiltins x
 nolimit:base.NoLimit
structure Cx where
 prog:Program
 w:World
 K:PySem.W.Frag
 mg:Str->Option Value
 base:Heap
 A:Around
 N:List Str
 s₀:Shared
 H₀:Hp
 env:Env
 outer:List Env
 stack:List Env
 ex:List Addr
 fn:Str->Bool
 calm:Bool
 pn:List (Addr×Obj)
 xe:Value->Shared->Prop
def frs (l:List Env):List Addr:=l.filterMap (·.frame)
abbrev Cx.fs (X:Cx):List Addr:=frs X.outer
def Vis (sc:Scope) (x:Str):Prop:=sc.names.lookup x=some .local\/sc.names.lookup x=some .cell\/sc.names.lookup x=some .free
def Loc (sc:Scope) (x:Str):Prop:=sc.names.lookup x=some .local\/sc.names.lookup x=some .cell
def Look (env:Env) (h:Heap) (m:Str->Option Value) (x:Str) (u:Value):Prop:=
 (env.kindOf x=some .local/\m x=some u)\/((env.kindOf x=some .cell\/env.kindOf x=some .free)/\∃ c,env.cells.lookup x=some c/\h.IsCell c (some u))
structure Cx.Ok (X:Cx):Prop where
 mod:Mod X.K X.mg X.base
 kind:X.env.scope.kind=.function
 glob:X.env.globals=mainGlobals
 blt:X.env.builtins=builtinsNs
 above:X.s₀.heap.objs.size<=X.env.locals
 inj:∀ x y c,X.env.cells.lookup x=some c->X.env.cells.lookup y=some c->x=y
 has:∀ x,(X.env.kindOf x=some .cell\/X.env.kindOf x=some .free)->∃ c,X.env.cells.lookup x=some c
 cab:∀ x c,X.fn x=true->X.env.cells.lookup x=some c->X.s₀.heap.objs.size<=c
 hd:X.calm=true->X.A.handled=none
 frames:X.A.frames=some X.stack
 stk:X.stack=X.outer\/(X.stack=X.env::X.outer/\X.env.frame=some X.env.locals)
 exf:∀ b∈X.ex,b≠X.env.locals/\∀ x c,X.env.cells.lookup x=some c->c≠b
 bs:∀ b o,X.base.get? b=some o->X.s₀.heap.get? b=some o/\X.H₀ b=none
 bsz:X.base.objs.size<=X.s₀.heap.objs.size
 noex:∀ b o,X.base.get? b=some o->b ∉ X.ex
 exfs:∀ b∈X.ex,b ∉ X.fs
 funs:X.s₀.heap.FunFrames X.base X.outer
 frf:∀ b∈X.fs,X.H₀ b=none
structure Inv (X:Cx) (pins:List (Addr×Obj)) (σ:List (Option V)) (H:Hp) (s:Shared):Prop where
 ok:X.Ok
 os:s.os=X.s₀.os
 bare:AllBare s.gens
 base:Un X.fs X.ex X.H₀ H X.s₀.heap s.heap
 loc:∃ m,s.heap.Ns X.env.locals m/\∀ (i:Nat) (x:Str) (v:V),X.N[i]?=some x->σ[i]?=some (some v)->Vis X.env.scope x->∃ u,RelV v u/\Look X.env s.heap m x u
 cell:∀ x c,X.env.cells.lookup x=some c->∃ v,s.heap.IsCell c v
 free:H X.env.locals=none
 freeC:∀ x c,X.env.cells.lookup x=some c->H c=none
 pin:∀ p∈X.pn++pins,s.heap.get? p.1=some p.2/\H p.1=none/\p.1≠X.env.locals/\p.1 ∉ X.fs/\∀ v,p.2.data≠.cell v
 hok:HOk X.prog X.w H s.heap
 len:σ.length=X.N.length
section
variable {X:Cx}{pins:List (Addr×Obj)}{σ:List (Option V)}{H H':Hp}{s:Shared}{h':Heap}
theorem Cx.Ok.nofr (ok:X.Ok) {b:Addr}{o:Obj} (e:X.base.get? b=some o):b ∉ X.fs:=λhb=>by
 have:=(ok.funs.mem hb).1
 rw [e] at this;cases this
theorem Inv.bs (I:Inv X pins σ H s):∀ b o,X.base.get? b=some o->s.heap.get? b=some o/\H b=none:=λb o e=>
 ⟨I.base.keep b o (I.ok.bs b o e).1 (I.ok.bs b o e).2 (I.ok.nofr e) (I.ok.noex b o e),I.base.free b o (I.ok.bs b o e).1 (I.ok.bs b o e).2 (I.ok.noex b o e)⟩
theorem Inv.bk (I:Inv X pins σ H s):∀ b o,X.base.get? b=some o->s.heap.get? b=some o:=λb o e=>(I.bs b o e).1
theorem Inv.mod (I:Inv X pins σ H s):Mod X.K X.mg X.base:=I.ok.mod
theorem Inv.kIn (I:Inv X pins σ H s):X.K.In s.heap:=I.ok.mod.kin.keeps I.bk
theorem Inv.fr (I:Inv X pins σ H s):∃ m,Fr X.base X.env.locals s.heap m:=
 let ⟨m,hn,_⟩:=I.loc
 ⟨m,hn,I.bk,z8 I.ok.bsz I.ok.above⟩
theorem Inv.lt (I:Inv X pins σ H s):X.env.locals < s.heap.objs.size:=let ⟨_,hn,_⟩:=I.loc;hn.lt
theorem Inv.sz (I:Inv X pins σ H s):X.s₀.heap.objs.size<=s.heap.objs.size:=z8 I.ok.above (xF I.lt)
theorem Inv.nofs (I:Inv X pins σ H s) {a:Addr} (h:s.heap.objs.size<=a):a ∉ X.fs:=λhb=>by
 obtain ⟨_,o,ho,_⟩:=I.ok.funs.mem hb
 exact absurd (zR (Heap.lt_size ho) (z8 I.sz h)) (yF _)
theorem Inv.cne (I:Inv X pins σ H s):∀ x c,X.env.cells.lookup x=some c->c≠X.env.locals:=λx c e z=>by
 obtain ⟨v,o,ho,hd⟩:=I.cell x c e
 obtain ⟨m,⟨o',es,ep,ho',hd',_⟩,_⟩:=I.loc
 rw [z,ho'] at ho;cases ho;rw [hd'] at hd;cases hd
theorem Inv.funs (I:Inv X pins σ H s):s.heap.FunFrames X.base X.outer:=by
 have all:∀ (l:List Env),(∀ b∈frs l,b∈X.fs)->X.s₀.heap.FunFrames X.base l->s.heap.FunFrames X.base l:=by
  intro l
  induction l with
  | nil=>intro _ _;trivial
  | cons env r ih=>
   intro hs hl
   obtain ⟨hk,⟨L,o,hf,hn,ho,hd⟩,hr⟩:=hl
   have hL:L∈X.fs:=hs L (by unfold frs;rw [yk,hf];exact z4)
   obtain ⟨sl,e⟩:=I.base.slot L o ho (I.ok.frf L hL) hL λz=>I.ok.exfs L z hL
   exact ⟨hk,⟨L,_,hf,hn,e,hd⟩,ih (λb hb=>hs b (by unfold frs;rw [yk,hf];exact zf _ hb)) hr⟩
 exact all X.outer (λ_ hb=>hb) I.ok.funs
theorem Inv.stack (I:Inv X pins σ H s):s.heap.FunFrames X.base X.stack:=by
 rcases I.ok.stk with e | ⟨e,hf⟩
 ·rw [e];exact I.funs
 ·rw [e]
  obtain ⟨m,hn,_⟩:=I.loc
  refine .cons (by rw [I.ok.kind];decide) hf hn ?_ I.funs
  exact Heap.get?_none_of_le (z8 I.ok.bsz I.ok.above)
theorem Inv.stkSub (I:Inv X pins σ H s):∀ b∈frs X.stack,b∈X.env.locals::X.fs:=λb hb=>by
 rcases I.ok.stk with e | ⟨e,hf⟩
 ·rw [e] at hb;exact zf _ hb
 ·rw [e] at hb
  unfold frs at hb
  rw [yk,hf] at hb
  exact hb
theorem Inv.stkFree (I:Inv X pins σ H s):∀ b∈frs X.stack,H b=none:=λb hb=>by
 rcases zH.mp (I.stkSub b hb) with e | hb
 ·rw [e];exact I.free
 ·obtain ⟨_,o,ho,_⟩:=I.ok.funs.mem hb
  exact I.base.free b o ho (I.ok.frf b hb) λz=>I.ok.exfs b z hb
theorem Inv.step {g':Array GenState}{t':Nat}{d':Drawn}{ch:List Addr} (I:Inv X pins σ H s)
  (hch:∀ b∈ch,(b∈X.ex\/X.s₀.heap.objs.size<=b)/\b≠X.env.locals/\(∀ x c,X.env.cells.lookup x=some c->c≠b)/\∀ p∈X.pn++pins,p.1≠b)
  (keep:∀ b o,b≠X.env.locals->b ∉ X.fs->b ∉ ch->s.heap.get? b=some o->H b=none->h'.get? b=some o)
  (slot:∀ b o,b≠X.env.locals->b∈X.fs->b ∉ ch->s.heap.get? b=some o->H b=none->∃ sl,h'.get? b=some { o with slots:=sl }) (free:∀ b o,b ∉ ch->s.heap.get? b=some o->H b=none->H' b=none)
  (there:∀ b o,b ∉ ch->s.heap.get? b=some o->∃ o',h'.get? b=some o')
  (tups:∀ b xs,H b=some (.tup xs)->H' b=some (.tup xs)) (frzs:∀ b o u,H b=some (.frz o u)->H' b=some (.frz o u)) (tbls:∀ b ps,H b=some (.tbl ps)->∃ more,H' b=some (.tbl (ps++more)))
  (ns:∀ m,s.heap.Ns X.env.locals m->h'.Ns X.env.locals m) (hok:HOk X.prog X.w H' h') (hg:AllBare g') :
  Inv X pins σ H' { s with heap:=h',gens:=g',drawn:=d',toks:=t' }:=by
 have neL:∀ b o,X.s₀.heap.get? b=some o->b≠X.env.locals:=λb o e=>zU (zR (Heap.lt_size e) I.ok.above)
 have neC:∀ b o,X.s₀.heap.get? b=some o->b ∉ X.ex->b ∉ ch:=λb o e hx hb=>by
  rcases (hch b hb).1 with z | z
  ·exact hx z
  ·exact absurd (zR (Heap.lt_size e) z) (yF _)
 have cellK:∀ x c,X.env.cells.lookup x=some c->∀ v,s.heap.IsCell c v->h'.IsCell c v:=λx c e v ⟨o,ho,hd⟩=>by
  have nch:c ∉ ch:=λz=>(hch c z).2.2.1 x c e rfl
  by_cases hc:c∈X.fs
  ·obtain ⟨sl,q⟩:=slot c o (I.cne x c e) hc nch ho (I.freeC x c e)
   exact ⟨_,q,hd⟩
  ·exact ⟨o,keep c o (I.cne x c e) hc nch ho (I.freeC x c e),hd⟩
 refine ⟨I.ok,I.os,hg,⟨λb o e n hb hx=>?_,λb o e n hb hx=>?_,λb o e n hx=>?_,λb o e hx=>?_,λb xs e=>tups b xs (I.base.tups b xs e),λb o xs e=>frzs b o xs (I.base.frzs b o xs e),λb ps e=>?_⟩,?_,λx c e=>?_,?_,λx c e=>?_,λp hp=>?_,hok,I.len⟩
 ·exact keep b o (neL b o e) hb (neC b o e hx) (I.base.keep b o e n hb hx) (I.base.free b o e n hx)
 ·obtain ⟨sl,e1⟩:=I.base.slot b o e n hb hx
  obtain ⟨sl',e2⟩:=slot b _ (neL b o e) hb (neC b o e hx) e1 (I.base.free b o e n hx)
  exact ⟨sl',e2⟩
 ·obtain ⟨o',e1⟩:=I.base.there b o e hx
  exact free b o' (neC b o e hx) e1 (I.base.free b o e n hx)
 ·obtain ⟨o',e1⟩:=I.base.there b o e hx
  exact there b o' (neC b o e hx) e1
 ·obtain ⟨m1,e1⟩:=I.base.tbls b ps e
  obtain ⟨m2,e2⟩:=tbls b _ e1
  exact ⟨m1++m2,by rw [e2,Array.append_assoc]⟩
 ·obtain ⟨m,hn,hl⟩:=I.loc
  refine ⟨m,ns m hn,λi x v e1 e2 e3=>?_⟩
  obtain ⟨u,r,l⟩:=hl i x v e1 e2 e3
  refine ⟨u,r,?_⟩
  rcases l with l | ⟨k,c,e,z⟩
  ·exact .inl l
  ·exact .inr ⟨k,c,e,cellK x c e _ z⟩
 ·obtain ⟨v,z⟩:=I.cell x c e
  exact ⟨v,cellK x c e v z⟩
 ·obtain ⟨m,⟨o,_,_,ho,_⟩,_⟩:=I.loc
  exact free _ o (λz=>(hch _ z).2.1 rfl) ho I.free
 ·obtain ⟨v,o,ho,hd⟩:=I.cell x c e
  exact free c o (λz=>(hch c z).2.2.1 x c e rfl) ho (I.freeC x c e)
 ·obtain ⟨e,n,ne,nf,d⟩:=I.pin p hp
  have nch:p.1 ∉ ch:=λz=>(hch p.1 z).2.2.2 p hp rfl
  exact ⟨keep p.1 p.2 ne nf nch e n,free p.1 p.2 nch e n,ne,nf,d⟩
theorem Inv.un {t':Nat} (I:Inv X pins σ H s) (u:Un X.fs [] H H' s.heap h') (hok:HOk X.prog X.w H' h'):Inv X pins σ H' { s with heap:=h',toks:=t' }:=by
 obtain ⟨m,⟨o,es,ep,ho,r⟩,_⟩:=id I.loc
 obtain ⟨sl,hL⟩:=u.any ho I.free (by simp)
 exact I.step (g':=s.gens) (d':=s.drawn) (ch:=[]) (λ_ z=>nomatch z) (λb o _ hb _ e n=>u.keep b o e n hb (by simp)) (λb o _ hb _ e n=>u.slot b o e n hb (by simp)) (λb o _ e n=>u.free b o e n (by simp)) (λb o _ e=>u.there b o e (by simp)) u.tups u.frzs u.tbls (λm' hm=>by
  obtain ⟨o',es',ep',ho',r'⟩:=hm
  rw [ho] at ho';cases ho'
  exact ⟨_,es',ep',hL,r'⟩) hok I.bare
theorem Inv.call {g':Array GenState}{t':Nat}{d':Drawn}{ch:List Addr} (I:Inv X pins σ H s) (u:Un (frs X.stack) ch H H' s.heap h') (hok:HOk X.prog X.w H' h') (hg:AllBare g')
  (hch:∀ b∈ch,(b∈X.ex\/X.s₀.heap.objs.size<=b)/\b≠X.env.locals/\(∀ x c,X.env.cells.lookup x=some c->c≠b)/\∀ p∈X.pn++pins,p.1≠b) :
  Inv X pins σ H' { s with heap:=h',gens:=g',drawn:=d',toks:=t' }:=by
 obtain ⟨m,⟨o,es,ep,ho,r⟩,_⟩:=id I.loc
 obtain ⟨sl,hL⟩:=u.any ho I.free λz=>(hch _ z).2.1 rfl
 exact I.step (ch:=ch) hch (λb o hL hb hc e n=>u.keep b o e n (λz=>(zH.mp (I.stkSub b z)).elim hL hb) hc) (λb o _ _ hc e n=>u.any e n hc) (λb o hc e n=>u.free b o e n hc) (λb o hc e=>u.there b o e hc) u.tups u.frzs u.tbls (λm' hm=>by
  obtain ⟨o',es',ep',ho',r'⟩:=hm
  rw [ho] at ho';cases ho'
  exact ⟨_,es',ep',hL,r'⟩) hok hg
theorem Inv.turned {t':Nat}{it:Addr} (I:Inv X pins σ H s) (k:∀ b o,b≠it->s.heap.get? b=some o->h'.get? b=some o) (hn:H it=none) (hL:it≠X.env.locals)
  (h1:it∈X.ex\/X.s₀.heap.objs.size<=it) (h2:∀ x c,X.env.cells.lookup x=some c->c≠it) (h3:∀ p∈X.pn++pins,p.1≠it):Inv X pins σ H { s with heap:=h',toks:=t' }:=by
 have nit:∀ b u,H b=some u->b≠it:=λb u e z=>by rw [z,hn] at e;cases e
 refine I.step (g':=s.gens) (d':=s.drawn) (ch:=[it]) (λb hb=>?_) (λb o _ _ hc e _=>k b o (λz=>hc (by simp [z])) e) (λb o _ _ hc e _=>⟨o.slots,k b o (λz=>hc (by simp [z])) e⟩) (λ_ _ _ _ n=>n)
  (λb o hc e=>⟨o,k b o (λz=>hc (by simp [z])) e⟩) (λ_ _ e=>e) (λ_ _ _ e=>e) (λb ps e=>⟨#[],by rw [e];simp⟩) (λm hm=>?_) (λb u e=>?_) I.bare
 ·have e:b=it:=by simpa using hb
  subst e
  exact ⟨h1,hL,h2,h3⟩
 ·obtain ⟨o,es,ep,ho,r⟩:=hm
  exact ⟨o,es,ep,k _ o (Ne.symm hL) ho,r⟩
 ·refine (I.hok b u e).stay (λc v hc q=>k c v ?_ q) (λ_ q=>q) λ_ _ q=>q
  rcases hc with z | z
  ·rw [z];exact nit b u e
  ·exact nit c _ z
theorem Inv.tok (I:Inv X pins σ H s) (t:Nat):Inv X pins σ H { s with toks:=t }:=I.un (h':=s.heap) (t':=t) Un.refl I.hok
theorem Inv.kept {t':Nat} (I:Inv X pins σ H s) (k:∀ b u,s.heap.get? b=some u->h'.get? b=some u):Inv X pins σ H { s with heap:=h',toks:=t' }:=I.un (Un.kept k) (I.hok.kept k)
theorem Inv.laid {a:Addr}{o:HO}{t':Nat} (I:Inv X pins σ H s) (k:∀ b u,s.heap.get? b=some u->h'.get? b=some u) (hp:s.heap.objs.size<=a) (new:ObjOk X.prog X.w (upd H a o) h' a o) :
  Inv X pins σ (upd H a o) { s with heap:=h',toks:=t' }:=I.un (Un.laid k hp (I.hok.fresh hp)) (I.hok.laid k hp new)
theorem Inv.write {x e:Addr}{o:HO}{t':Nat} (I:Inv X pins σ H s) (mu:Mut (H x)) (he:e=x\/H e=some (.own x)) (k:∀ b u,b≠e->s.heap.get? b=some u->h'.get? b=some u) (heo:∃ u,h'.get? e=some u)
  (new:ObjOk X.prog X.w (upd H x o) h' x o):Inv X pins σ (upd H x o) { s with heap:=h',toks:=t' }:=I.un (Un.write mu he k heo) (I.hok.write mu he k heo new)
theorem Inv.pins_of {pins':List (Addr×Obj)} (I:Inv X pins σ H s) (h:∀ p∈pins',s.heap.get? p.1=some p.2/\H p.1=none/\p.1≠X.env.locals/\p.1 ∉ X.fs/\∀ v,p.2.data≠.cell v):Inv X pins' σ H s:=
 ⟨I.ok,I.os,I.bare,I.base,I.loc,I.cell,I.free,I.freeC,λp hp=>(zT.mp hp).elim (λz=>I.pin p (zx _ z)) (h p),I.hok,I.len⟩
theorem nodup_ix {N:List Str} (hN:N.Nodup) {i j:Nat}{x:Str} (a:N[i]?=some x) (b:N[j]?=some x):i=j:=by
 obtain ⟨h1,e1⟩:=zB.mp a
 obtain ⟨h2,e2⟩:=zB.mp b
 exact (List.getElem_inj hN).mp (e1.trans e2.symm)
theorem store_ok2 {M:Model}{A:Around}{E:Value->Shared->Prop}{i:Nat}{x:Str}{v:V}{u:Value}{Q:Unit->Shared->Prop} (I:Inv X pins σ H s) (hN:X.N.Nodup) (hi:X.N[i]?=some x) (hx:Loc X.env.scope x) (r:RelV v u)
  (h:∀ s',Inv X pins (σ.set i (some v)) H s'->(∃ a,Heap.SameBut a s.heap s'.heap/\(a=X.env.locals\/X.env.cells.lookup x=some a))->Q () s') (hf:X.fn x=true\/X.env.scope.names.lookup x=some .local:=by first | exact .inl rfl | exact .inr rfl | assumption):wpAny M A (storeName X.env x u) Q E s:=by
 obtain ⟨m,hn,hl⟩:=id I.loc
 have hcls:(X.env.scope.kind == .class || (X.env.scope.kind == .module && X.env.locals != X.env.globals))=false:=by rw [I.ok.kind];rfl
 have hiσ:i < σ.length:=by rw [I.len];exact (zB.mp hi).1
 have cne:=I.cne
 have tracked:∀ {a:Addr}{h':Heap},(∃ o,s.heap.get? a=some o/\H a=none)->Heap.SameBut a s.heap h'->HOk X.prog X.w H h':=λ{a h'} ha hs b ob e=>by
  obtain ⟨_,_,hfree⟩:=ha
  refine (I.hok b ob e).stay (λc w' hc q=>(hs.2 c ?_).trans q) (λ_ q=>q) λ_ _ q=>q
  rintro rfl
  rcases hc with rfl | hc
  ·rw [hfree] at e;cases e
  ·rw [hfree] at hc;cases hc
 rcases hx with hk | hk
 ·refine wpAny_storeName_local hk hn (λh' hn' hs=>?_) hcls
  obtain ⟨oL,_,_,hoL,_⟩:=id hn
  refine h _ ⟨I.ok,I.os,I.bare,⟨λb o e n hb hx=>?_,λb o e n hb hx=>?_,I.base.free,λb o e hx=>?_,I.base.tups,I.base.frzs,I.base.tbls⟩,⟨_,hn',λj y v' e1 e2 e3=>?_⟩,λy c e=>?_,I.free,I.freeC,λp hp=>?_,tracked ⟨oL,hoL,I.free⟩ hs,by simpa using I.len⟩ ⟨_,hs,.inl rfl⟩
  ·exact (hs.2 b (zU (zR (Heap.lt_size e) I.ok.above))).trans (I.base.keep b o e n hb hx)
  ·obtain ⟨sl,e1⟩:=I.base.slot b o e n hb hx
   exact ⟨sl,(hs.2 b (zU (zR (Heap.lt_size e) I.ok.above))).trans e1⟩
  ·obtain ⟨o',e1⟩:=I.base.there b o e hx
   exact ⟨o',(hs.2 b (zU (zR (Heap.lt_size e) I.ok.above))).trans e1⟩
  ·by_cases hj:j=i
   ·subst hj
    rw [hi] at e1;cases e1
    rw [List.getElem?_set_self hiσ] at e2
    cases e2
    exact ⟨u,r,.inl ⟨hk,by simp⟩⟩
   ·rw [List.getElem?_set_ne (Ne.symm hj)] at e2
    obtain ⟨u',r',q⟩:=hl j y v' e1 e2 e3
    refine ⟨u',r',?_⟩
    rcases q with ⟨k,e⟩ | ⟨k,c,e,z⟩
    ·refine .inl ⟨k,?_⟩
     have:y≠x:=λe=>hj (nodup_ix hN e1 (e ▸ hi))
     simp [this,e]
    ·exact .inr ⟨k,c,e,z.sameBut hs (cne y c e)⟩
  ·obtain ⟨w',z⟩:=I.cell y c e
   exact ⟨w',z.sameBut hs (cne y c e)⟩
  ·obtain ⟨e,n,ne,nf,d⟩:=I.pin p hp
   exact ⟨(hs.2 p.1 ne).trans e,n,ne,nf,d⟩
 ·have hfn:X.fn x=true:=by
   rcases hf with z | z
   ·exact z
   ·rw [z] at hk;cases hk
  obtain ⟨c,hc⟩:=I.ok.has x (.inl hk)
  obtain ⟨w',z⟩:=I.cell x c hc
  refine wpAny_storeName_cell I.ok.kind hk hc z (λh' hc' hs=>?_)
  obtain ⟨oc,hoc,hocd⟩:=id z
  refine h { s with heap:=h' } ⟨I.ok,I.os,I.bare,⟨λb o e n hb hx=>?_,λb o e n hb hx=>?_,I.base.free,λb o e hx=>?_,I.base.tups,I.base.frzs,I.base.tbls⟩,⟨m,hn.sameBut hs (Ne.symm (cne x c hc)),λj y v' e1 e2 e3=>?_⟩,λy c' e=>?_,I.free,I.freeC,λp hp=>?_,tracked ⟨oc,hoc,I.freeC x c hc⟩ hs,by simpa using I.len⟩ ⟨c,hs,.inr hc⟩
  ·exact (hs.2 b (zU (zR (Heap.lt_size e) (I.ok.cab x c hfn hc)))).trans (I.base.keep b o e n hb hx)
  ·obtain ⟨sl,e1⟩:=I.base.slot b o e n hb hx
   exact ⟨sl,(hs.2 b (zU (zR (Heap.lt_size e) (I.ok.cab x c hfn hc)))).trans e1⟩
  ·obtain ⟨o',e1⟩:=I.base.there b o e hx
   exact ⟨o',(hs.2 b (zU (zR (Heap.lt_size e) (I.ok.cab x c hfn hc)))).trans e1⟩
  ·by_cases hj:j=i
   ·subst hj
    rw [hi] at e1;cases e1
    rw [List.getElem?_set_self hiσ] at e2
    cases e2
    exact ⟨u,r,.inr ⟨.inl hk,c,hc,hc'⟩⟩
   ·rw [List.getElem?_set_ne (Ne.symm hj)] at e2
    obtain ⟨u',r',q⟩:=hl j y v' e1 e2 e3
    refine ⟨u',r',?_⟩
    rcases q with q | ⟨k,c',e,z'⟩
    ·exact .inl q
    ·refine .inr ⟨k,c',e,z'.sameBut hs ?_⟩
     rintro rfl
     exact hj (nodup_ix hN e1 (I.ok.inj _ _ _ e hc ▸ hi))
  ·by_cases hcc:c'=c
   ·subst hcc;exact ⟨_,hc'⟩
   ·obtain ⟨w2,z2⟩:=I.cell y c' e
    exact ⟨w2,z2.sameBut hs hcc⟩
  ·obtain ⟨e,n,ne,nf,d⟩:=I.pin p hp
   refine ⟨(hs.2 p.1 ?_).trans e,n,ne,nf,d⟩
   intro q
   rw [q,hoc] at e
   have q':oc=p.2:=Option.some.inj e
   exact d w' (by rw [<-q'];exact hocd)
theorem store_ok {M:Model}{A:Around}{E:Value->Shared->Prop}{i:Nat}{x:Str}{v:V}{u:Value}{Q:Unit->Shared->Prop} (I:Inv X pins σ H s) (hN:X.N.Nodup) (hi:X.N[i]?=some x) (hx:Loc X.env.scope x) (r:RelV v u)
  (h:∀ s',Inv X pins (σ.set i (some v)) H s'->Q () s') (hf:X.fn x=true\/X.env.scope.names.lookup x=some .local:=by first | exact .inl rfl | exact .inr rfl | assumption):wpAny M A (storeName X.env x u) Q E s:=
 store_ok2 I hN hi hx r (λs' I' _=>h s' I') hf
theorem Inv.call' {s':Shared}{ch:List Addr} (I:Inv X pins σ H s) (ho:s'.os=s.os) (u:Un (frs X.stack) ch H H' s.heap s'.heap) (hok:HOk X.prog X.w H' s'.heap) (hg:AllBare s'.gens)
  (hch:∀ b∈ch,(b∈X.ex\/X.s₀.heap.objs.size<=b)/\b≠X.env.locals/\(∀ x c,X.env.cells.lookup x=some c->c≠b)/\∀ p∈X.pn++pins,p.1≠b):Inv X pins σ H' s':=by
 obtain ⟨h',g',d',t',o'⟩:=s'
 have e:o'=s.os:=ho
 subst e
 exact I.call (g':=g') (t':=t') (d':=d') u hok hg hch
end
abbrev XK:=Value->Option Addr->Hp->Prop
abbrev St:=List (Option V)
abbrev VK:=V->Hp->Prop
abbrev TE:=St->Hp->VK->Prop
abbrev TT:=St->Hp->(Bool->Hp->Prop)->Prop
abbrev TA:=St->Hp->(List V->Hp->Prop)->Prop
structure Ends where
 nx:St->Hp->Prop
 rt:VK
 bk:St->Hp->Prop:=λ_ _=>False
 ct:St->Hp->Prop:=λ_ _=>False
abbrev TS:=Ends->St->Hp->Prop
def EP (X:Cx) (pins:List (Addr×Obj)) (σ:St) (Q:VK) (u:Value) (s':Shared):Prop:=∃ v H',Inv X pins σ H' s'/\RelV v u/\Q v H'
def TP (X:Cx) (pins:List (Addr×Obj)) (σ:St) (Q:Bool->Hp->Prop) (b:Bool) (s':Shared):Prop:=∃ H',Inv X pins σ H' s'/\Q b H'
def AP (X:Cx) (pins:List (Addr×Obj)) (σ:St) (Q:List V->Hp->Prop) (us:List Value) (s':Shared):Prop:=∃ vs H',Inv X pins σ H' s'/\Vals vs us/\Q vs H'
def SP (X:Cx) (pins:List (Addr×Obj)) (D:Ends) (f:Flow) (s':Shared):Prop:=
 match f with
 | .next=>∃ σ' H',Inv X pins σ' H' s'/\D.nx σ' H'
 | .brk=>∃ σ' H',Inv X pins σ' H' s'/\D.bk σ' H'
 | .cont=>∃ σ' H',Inv X pins σ' H' s'/\D.ct σ' H'
 | .ret u=>∃ v σ' H',Inv X pins σ' H' s'/\RelV v u/\D.rt v H'
def PE (X:Cx) (e:Expr) (t:TE):Prop:=
 ∀ (pins:List (Addr×Obj)) (s:Shared) (σ:St) (H:Hp) (Q:VK),Inv X pins σ H s->t σ H Q->wpAny (model X.prog X.w) X.A (eval e X.env) (EP X pins σ Q) X.xe s
def PT (X:Cx) (e:Expr) (t:TT):Prop:=
 ∀ (pins:List (Addr×Obj)) (s:Shared) (σ:St) (H:Hp) (Q:Bool->Hp->Prop),Inv X pins σ H s->t σ H Q->wpAny (model X.prog X.w) X.A (isTrue e X.env (eval e X.env)) (TP X pins σ Q) X.xe s
def PW (X:Cx) (e:Expr) (t:TT):Prop:=
 ∀ (whole:Sem Value) (pins:List (Addr×Obj)) (s:Shared) (σ:St) (H:Hp) (Q:Bool->Hp->Prop),Inv X pins σ H s->t σ H Q->wpAny (model X.prog X.w) X.A (isTrue e X.env whole) (TP X pins σ Q) X.xe s
theorem PW.pt {X:Cx}{e:Expr}{t:TT} (h:PW X e t):PT X e t:=h _
def PA (X:Cx) (es:List Expr) (t:TA):Prop:=
 ∀ (pos:Pos) (pins:List (Addr×Obj)) (s:Shared) (σ:St) (H:Hp) (Q:List V->Hp->Prop),Inv X pins σ H s->t σ H Q->wpAny (model X.prog X.w) X.A (spliced (backTo pos (starEach es X.env))) (AP X pins σ Q) X.xe s
def PS (X:Cx) (st:Stmt) (t:TS):Prop:=
 ∀ (pins:List (Addr×Obj)) (s:Shared) (σ:St) (H:Hp) (D:Ends),Inv X pins σ H s->t D σ H->wpAny (model X.prog X.w) X.A (exec st X.env) (SP X pins D) X.xe s
def PSs (X:Cx) (st:List Stmt) (t:TS):Prop:=
 ∀ (pins:List (Addr×Obj)) (s:Shared) (σ:St) (H:Hp) (D:Ends),Inv X pins σ H s->t D σ H->wpAny (model X.prog X.w) X.A (execs st X.env) (SP X pins D) X.xe s
theorem thn {α:Type}{t:Sem α}{Q Q':α->Shared->Prop}{M:Model}{A:Around}{E:Value->Shared->Prop}{s:Shared} (h:wpAny M A t Q E s) (hQ:∀ a s,Q a s->Q' a s):wpAny M A t Q' E s:=wpAny_mono h hQ λ_ _ x=>x
end L2
namespace L2
open PySem PySem.Spec PyProof.Rows
section
variable {X:Cx}
def tVar (i:Nat):TE:=fun σ H Q=>∃ v,σ[i]?=some (some v)/\Q v H
def tC (v:V):TE:=λ_ H Q=>Q v H
theorem pe_var {i:Nat}{x:Str}{pos:Pos} (hN:X.N[i]?=some x) (hv:Vis X.env.scope x) (hd:(x == ("__debug__" : Str))=false:=by decide) (hcd:(x == ("__classdict__" : Str))=false:=by decide):PE X (.Name x pos) (tVar i):=by
 intro pins s σ H Q I h
 obtain ⟨v,e,h⟩:=h
 obtain ⟨m,hn,hl⟩:=I.loc
 obtain ⟨u,r,l⟩:=hl i x v hN e hv
 have fin:EP X pins σ Q u s:=⟨v,H,I,r,h⟩
 rcases l with ⟨hk,hm⟩ | ⟨hk,c,hc,hcell⟩
 ·exact wpAny_Name (wpAny_loadName_local I.ok.kind hk hn hm fin) hd
 ·rcases hk with hk | hk
  ·exact wpAny_Name (wpAny_loadName_cell I.ok.kind hk hc hcell fin) hd
  ·exact wpAny_Name (wpAny_loadName_free I.ok.kind hk hc hcell fin hcd) hd
theorem xY {i j pos}:PE X (.Constant (.int i) j pos) (tC (.int i)):=λ_ _ _ H _ I h=>wpAny_Constant_int ⟨.int i,H,I.tok _,⟨_,rfl⟩,h⟩
theorem pe_bl {b j pos}:PE X (.Constant (.bool b) j pos) (tC (.bl b)):=λ_ _ _ H _ I h=>Constant_bool ⟨.bl b,H,I,rfl,h⟩
theorem pe_non {j pos}:PE X (.Constant .none j pos) (tC .non):=λ_ _ _ H _ I h=>Constant_none ⟨.non,H,I,rfl,h⟩
theorem pe_str {x j pos}:PE X (.Constant (.str x) j pos) (tC (.str x)):=λ_ _ _ H _ I h=>Calls.Constant_str ⟨.str x,H,I.tok _,⟨_,rfl⟩,h⟩
def Gl (X:Cx) (x:Str):Prop:=X.env.kindOf x=some .globalImplicit
theorem ld_glob {E:Value->Shared->Prop}{pins:List (Addr×Obj)}{s:Shared}{σ:St}{H:Hp}{x:Str}{u:Value}{pos:Pos}{Q:Value->Shared->Prop} (I:Inv X pins σ H s) (hg:Gl X x) (hm:X.mg x=some u) (h:Q u s)
  (hd:(x == ("__debug__" : Str))=false:=by decide):wpAny (model X.prog X.w) X.A (eval (.Name x pos) X.env) Q E s:=
 Calls.Name_function_global I.ok.kind hg (Calls.loadGlobal_global (by rw [I.ok.glob];exact I.mod.glob.keeps I.bk) hm h) hd
theorem ld_blt {E:Value->Shared->Prop}{pins:List (Addr×Obj)}{s:Shared}{σ:St}{H:Hp}{x:Str}{u:Value}{pos:Pos}{Q:Value->Shared->Prop} (I:Inv X pins σ H s) (hg:Gl X x) (hm:X.mg x=none) (hv:bootBuiltins x=some u) (h:Q u s)
  (hn:x ≠ "__name__" := by decide) (hd:(x == ("__debug__" : Str))=false:=by decide):wpAny (model X.prog X.w) X.A (eval (.Name x pos) X.env) Q E s:=by
 obtain ⟨mb,h1,h2⟩:=I.mod.blt
 exact Calls.Name_function_global I.ok.kind hg (Calls.loadGlobal_builtin (by rw [I.ok.glob];exact I.mod.glob.keeps I.bk) hm (by rw [I.ok.blt];exact h1.keeps I.bk) ((h2 x hn).trans hv) h) hd
theorem pe_glob {x:Str}{v:V}{u:Value}{pos:Pos} (hg:Gl X x) (hm:X.mg x=some u) (r:RelV v u) (hd:(x == ("__debug__" : Str))=false:=by decide):PE X (.Name x pos) (tC v):=
 λ_ _ _ H _ I h=>ld_glob I hg hm ⟨v,H,I,r,h⟩ hd
theorem pe_bltn {x:Str}{v:V}{u:Value}{pos:Pos} (hg:Gl X x) (hm:X.mg x=none) (hv:bootBuiltins x=some u) (r:RelV v u) (hn:x ≠ "__name__" := by decide) (hd:(x == ("__debug__" : Str))=false:=by decide):PE X (.Name x pos) (tC v):=
 λ_ _ _ H _ I h=>ld_blt I hg hm hv ⟨v,H,I,r,h⟩ hn hd
variable {a b:Expr}{ta tb:TE}{pos:Pos}
def PC (X:Cx) (op:CmpOp) (a b:Expr) (t:TE):Prop:=
 ∀ (pins:List (Addr×Obj)) (s:Shared) (σ:St) (H:Hp) (Q:VK),Inv X pins σ H s->t σ H Q ->
  wpAny (model X.prog X.w) X.A (eval a X.env) (λv s₁=>wpAny (model X.prog X.w) X.A (eval b X.env) (λu s₂=>wpAny (model X.prog X.w) X.A (compareOp op v u) (EP X pins σ Q) X.xe s₂) X.xe s₁) X.xe s
theorem nobehind (b:Expr) {op:CmpOp} (h:op≠.In) (h2:op≠.NotIn):behindInMarks op b=false:=by
 have e1:(op == CmpOp.In)=false:=by cases op <;> first | rfl | exact absurd rfl h
 have e2:(op == CmpOp.NotIn)=false:=by cases op <;> first | rfl | exact absurd rfl h2
 cases b <;> simp [behindInMarks,e1,e2]
def tIsN (ta:TE):TE:=fun σ H Q=>ta σ H λx H1=>Q (.bl (decide (x=.non))) H1
def tNotN (ta:TE):TE:=fun σ H Q=>ta σ H λx H1=>Q (.bl (!decide (x=.non))) H1
theorem RelV.none_iff {x:V}{v:Value} (r:RelV x v):(v == Value.none)=decide (x=.non):=by
 cases x with
 | non=>cases r;rfl
 | bl _=>cases r;rfl
 | int _=>obtain ⟨t,rfl⟩:=r;rfl
 | str _=>obtain ⟨t,rfl⟩:=r;rfl
 | byt _=>obtain ⟨t,rfl⟩:=r;rfl
 | flt _=>obtain ⟨t,rfl⟩:=r;rfl
 | ref _=>cases r;rfl
 | ty _=>cases r;rfl
theorem pc_isN {j pos'} (ha:PE X a ta):PC X .Is a (.Constant .none j pos') (tIsN ta):=by
 intro pins s σ H Q I h
 refine thn (ha pins s σ H _ I h) λv s1 ⟨x,H1,I1,r1,q1⟩=>?_
 exact Constant_none (is_none_gen ⟨.bl _,H1,I1,by rw [r1.none_iff];rfl,q1⟩)
theorem pc_notN {j pos'} (ha:PE X a ta):PC X .IsNot a (.Constant .none j pos') (tNotN ta):=by
 intro pins s σ H Q I h
 refine thn (ha pins s σ H _ I h) λv s1 ⟨x,H1,I1,r1,q1⟩=>?_
 exact Constant_none (isnot_none_gen ⟨.bl _,H1,I1,by rw [r1.none_iff];rfl,q1⟩)
def tB (t:TE):TT:=fun σ H Q=>t σ H λx H1=>∃ c,x=.bl c/\Q c H1
theorem pe_cmp {op:CmpOp}{t:TE} (h:PC X op a b t) (h1:behindInMarks op b=false:=by first | exact nobehind _ (by decide) (by decide) | rfl):PE X (.Compare a [op] [b] pos) t:=λpins s σ H Q I hw=>wpAny_Compare1 (h pins s σ H Q I hw) h1
theorem pt_cmp {op:CmpOp}{t:TE} (h:PC X op a b t) (h1:behindInMarks op b=false:=by first | exact nobehind _ (by decide) (by decide) | rfl):PT X (.Compare a [op] [b] pos) (tB t):=by
 intro pins s σ H Q I hw
 refine wpAny_isTrue_Compare1 (thn (h pins s σ H _ I hw) λv s1 h1=>thn h1 λu s2 h2=>thn h2 λc s3 ⟨x,H1,I1,r1,q1⟩=>?_) h1
 obtain ⟨d,rfl,q⟩:=q1
 cases r1
 exact wpAny_truthy_bool ⟨H1,I1,q⟩
theorem wT {e:Expr}{t:TE} (h:PE X e t) (he:∀ whole,isTrue e X.env whole=(do let v <- whole;standAt e.pos;holding [v] (truthy v)):=by intro _;rfl):PT X e (tB t):=by
 intro pins s σ H Q I hw
 refine isTrue_plain (thn (h pins s σ H _ I hw) λv s1 ⟨x,H1,I1,r1,q1⟩=>?_) (he _)
 obtain ⟨d,rfl,q⟩:=q1
 cases r1
 exact wpAny_truthy_bool ⟨H1,I1,q⟩
variable {tA tB':TT}{rest:List Expr}
def tAnd (t u:TT):TT:=fun σ H Q=>t σ H λc H1=>if c=true then u σ H1 Q else Q false H1
def tOr (t u:TT):TT:=fun σ H Q=>t σ H λc H1=>if c=true then Q true H1 else u σ H1 Q
def tNot (t:TT):TT:=fun σ H Q=>t σ H λc H1=>Q (!c) H1
theorem pw_and1 (ha:PT X a tA):PW X (.BoolOp .And [a] pos) tA:=by
 intro wh pins s σ H Q I h
 refine isTrue_and (thn (ha pins s σ H Q I h) λc s1 e=>?_)
 cases c with
 | true=>exact isTrue_and_nil e
 | false=>exact e
theorem pw_or1 (ha:PT X a tA):PW X (.BoolOp .Or [a] pos) tA:=by
 intro wh pins s σ H Q I h
 refine isTrue_or (thn (ha pins s σ H Q I h) λc s1 e=>?_)
 cases c with
 | false=>exact isTrue_or_nil e
 | true=>exact e
theorem pw_and (ha:PT X a tA) (hb:PW X (.BoolOp .And (b::rest) pos) tB'):PW X (.BoolOp .And (a::b::rest) pos) (tAnd tA tB'):=by
 intro wh pins s σ H Q I h
 refine isTrue_and (thn (ha pins s σ H _ I h) λc s1 ⟨H1,I1,q1⟩=>?_)
 cases c with
 | true=>exact hb wh pins s1 σ H1 Q I1 q1
 | false=>exact ⟨H1,I1,q1⟩
theorem pw_or (ha:PT X a tA) (hb:PW X (.BoolOp .Or (b::rest) pos) tB'):PW X (.BoolOp .Or (a::b::rest) pos) (tOr tA tB'):=by
 intro wh pins s σ H Q I h
 refine isTrue_or (thn (ha pins s σ H _ I h) λc s1 ⟨H1,I1,q1⟩=>?_)
 cases c with
 | true=>exact ⟨H1,I1,q1⟩
 | false=>exact hb wh pins s1 σ H1 Q I1 q1
theorem wY (ha:PT X a tA):PT X (.UnaryOp .Not a pos) (tNot tA):=by
 intro pins s σ H Q I h
 exact isTrue_not (ha pins s σ H (λc H1=>Q (!c) H1) I h)
def tAndV (ta tb:TE):TE:=fun σ H Q=>ta σ H λx H1=>∃ c,x=.bl c/\if c=true then tb σ H1 Q else Q (.bl false) H1
def tOrV (ta tb:TE):TE:=fun σ H Q=>ta σ H λx H1=>∃ c,x=.bl c/\if c=true then Q (.bl true) H1 else tb σ H1 Q
def tNotV (ta:TE):TE:=fun σ H Q=>ta σ H λx H1=>∃ c,x=.bl c/\Q (.bl (!c)) H1
theorem pe_one {op}{t:TE} (h:PE X a t):PE X (.BoolOp op [a] pos) t:=λpins s σ H Q I hw=>BoolOp_one (h pins s σ H Q I hw)
theorem pe_and (ha:PE X a ta) (hb:PE X (.BoolOp .And (b::rest) pos) tb):PE X (.BoolOp .And (a::b::rest) pos) (tAndV ta tb):=by
 intro pins s σ H Q I h
 refine BoolOp_and (thn (ha pins s σ H _ I h) λv s1 ⟨x,H1,I1,r1,q1⟩=>?_)
 obtain ⟨c,rfl,q1⟩:=q1
 cases r1
 refine wpAny_truthy_bool ?_
 cases c with
 | true=>exact hb pins s1 σ H1 Q I1 q1
 | false=>exact ⟨.bl false,H1,I1,rfl,q1⟩
theorem pe_not (ha:PE X a ta):PE X (.UnaryOp .Not a pos) (tNotV ta):=by
 intro pins s σ H Q I h
 refine UnaryOp_ (thn (ha pins s σ H _ I h) λv s1 ⟨x,H1,I1,r1,q1⟩=>?_)
 obtain ⟨c,rfl,q1⟩:=q1
 cases r1
 exact not_of (wpAny_truthy_bool ⟨.bl (!c),H1,I1,rfl,q1⟩)
def tIf (t:TT) (ta tb:TE):TE:=fun σ H Q=>t σ H λc H1=>if c=true then ta σ H1 Q else tb σ H1 Q
theorem pe_ifExp {c:Expr} (hc:PT X c tA) (ha:PE X a ta) (hb:PE X b tb):PE X (.IfExp c a b pos) (tIf tA ta tb):=by
 intro pins s σ H Q I h
 refine wpAny_IfExp (thn (hc pins s σ H _ I h) λd s1 ⟨H1,I1,q1⟩=>?_)
 cases d with
 | true=>exact ha pins s1 σ H1 Q I1 q1
 | false=>exact hb pins s1 σ H1 Q I1 q1
end
end L2
namespace L2
open PySem PySem.Spec PyProof.Rows
def SqL (K:PySem.W.Frag) (H:Hp) (a:Addr) (xs:List V):Prop:=
 Rd H a (.lst xs) \/
  ∃ (o:Obj) (its:Array Value) (n:Nat),K.lookup a=some o/\o.cls=.type "list" /\ o.dict=none/\o.data=.seq its n/\its.size<=sizeLine/\Vals xs its.toList
def SqT (K:PySem.W.Frag) (H:Hp) (a:Addr) (xs:List V):Prop:=
 Rd H a (.tup xs) \/
  ∃ (o:Obj) (its:Array Value) (n:Nat),K.lookup a=some o/\o.cls=.type "tuple" /\ o.data=.seq its n/\its.size<=sizeLine/\Vals xs its.toList
def absV:Value->Option V
 | .none=>some .non
 | .bool b=>some (.bl b)
 | .int i _=>some (.int i)
 | .str x _=>some (.str x)
 | .bytes b _=>some (.byt b)
 | .float b _=>some (.flt b)
 | .ref a=>some (.ref a)
 | .type n=>some (.ty n)
 | _=>none
theorem RelV.abs {x:V}{u:Value} (r:RelV x u):absV u=some x:=by
 cases x with
 | non=>cases r;rfl
 | bl _=>cases r;rfl
 | int _=>obtain ⟨t,rfl⟩:=r;rfl
 | str _=>obtain ⟨t,rfl⟩:=r;rfl
 | byt _=>obtain ⟨t,rfl⟩:=r;rfl
 | flt _=>obtain ⟨t,rfl⟩:=r;rfl
 | ref _=>cases r;rfl
 | ty _=>cases r;rfl
theorem RelV.inj {x y:V}{u:Value} (r:RelV x u) (q:RelV y u):x=y:=Option.some.inj (r.abs.symm.trans q.abs)
theorem Vals.inj:∀ {xs ys:List V}{us:List Value},Vals xs us->Vals ys us->xs=ys
 | _,_,_,.nil,.nil=>rfl
 | _,_,_,.cons r t,.cons r' t'=>by rw [r.inj r',Vals.inj t t']
section
variable {X:Cx}{pins:List (Addr×Obj)}{σ:St}{H:Hp}{s:Shared}{a:Addr}{xs ys:List V}
theorem SqL.of {K:PySem.W.Frag} (h:H a=some (.lst xs)):SqL K H a xs:=.inl (.inl h)
theorem SqT.of {K:PySem.W.Frag} (h:H a=some (.tup xs)):SqT K H a xs:=.inl (.inl h)
theorem Inv.list (I:Inv X pins σ H s) (h:SqL X.K H a xs):∃ its:List Value,Vals xs its/\PlainL s.heap a its.toArray/\xs.length<=sizeLine:=by
 rcases h with h | ⟨o,its,n,hk,hc,hd,hs,hz,r⟩
 ·obtain ⟨z,its,n,r,e⟩:=h.ok I.hok
  exact ⟨its,r,⟨_,n,e,rfl,rfl,rfl⟩,z⟩
 ·refine ⟨its.toList,r,⟨o,n,I.kIn a o hk,hc,hd,by simpa using hs⟩,?_⟩
  have e:=r.length
  simp only [Array.length_toList] at e
  omega
theorem Inv.tuple (I:Inv X pins σ H s) (h:SqT X.K H a xs):∃ its:List Value,Vals xs its/\IsTup s.heap a its.toArray/\xs.length<=sizeLine:=by
 rcases h with h | ⟨o,its,n,hk,hc,hs,hz,r⟩
 ·obtain ⟨z,its,r,p⟩:=h.ok I.hok
  exact ⟨its,r,p,z.1⟩
 ·refine ⟨its.toList,r,⟨o,I.kIn a o hk,hc,n,by simpa using hs⟩,?_⟩
  have e:=r.length
  simp only [Array.length_toList] at e
  omega
theorem Inv.list_inj (I:Inv X pins σ H s) (h:SqL X.K H a xs) (h':SqL X.K H a ys):xs=ys:=by
 obtain ⟨its,r,⟨o,n,e,_,_,d⟩,_⟩:=I.list h
 obtain ⟨its',r',⟨o',n',e',_,_,d'⟩,_⟩:=I.list h'
 rw [e] at e';cases e'
 rw [d] at d'
 injection d' with d1 _
 have:its=its':=by simpa using congrArg Array.toList d1
 subst this
 exact r.inj r'
theorem Inv.tuple_inj (I:Inv X pins σ H s) (h:SqT X.K H a xs) (h':SqT X.K H a ys):xs=ys:=by
 obtain ⟨its,r,⟨o,e,_,n,d⟩,_⟩:=I.tuple h
 obtain ⟨its',r',⟨o',e',_,n',d'⟩,_⟩:=I.tuple h'
 rw [e] at e';cases e'
 rw [d] at d'
 injection d' with d1 _
 have:its=its':=by simpa using congrArg Array.toList d1
 subst this
 exact r.inj r'
end
abbrev Cx.wish (X:Cx) (E:Value->Shared->Prop):Cx:={ X with xe:=E }
abbrev Cx.nox (X:Cx):Cx:=X.wish λ_ _=>False
theorem Cx.Ok.wish {X:Cx} (ok:X.Ok) (E:Value->Shared->Prop):(X.wish E).Ok:=
 ⟨ok.mod,ok.kind,ok.glob,ok.blt,ok.above,ok.inj,ok.has,ok.cab,ok.hd,ok.frames,ok.stk,ok.exf,ok.bs,ok.bsz,ok.noex,ok.exfs,ok.funs,ok.frf⟩
theorem Cx.Ok.unwish {X:Cx}{E:Value->Shared->Prop} (ok:(X.wish E).Ok):X.Ok:=
 ⟨ok.mod,ok.kind,ok.glob,ok.blt,ok.above,ok.inj,ok.has,ok.cab,ok.hd,ok.frames,ok.stk,ok.exf,ok.bs,ok.bsz,ok.noex,ok.exfs,ok.funs,ok.frf⟩
section
variable {X:Cx}{pins:List (Addr×Obj)}{σ:St}{H:Hp}{s:Shared}{E:Value->Shared->Prop}
theorem Inv.wish (I:Inv X pins σ H s) (E:Value->Shared->Prop):Inv (X.wish E) pins σ H s:=⟨I.ok.wish E,I.os,I.bare,I.base,I.loc,I.cell,I.free,I.freeC,I.pin,I.hok,I.len⟩
theorem Inv.unwish (I:Inv (X.wish E) pins σ H s):Inv X pins σ H s:=⟨I.ok.unwish,I.os,I.bare,I.base,I.loc,I.cell,I.free,I.freeC,I.pin,I.hok,I.len⟩
theorem SP.unwish {D:Ends}{f:Flow}{s':Shared} (h:SP (X.wish E) pins D f s'):SP X pins D f s':=by
 cases f with
 | next=>obtain ⟨σ',H',I,q⟩:=h;exact ⟨σ',H',I.unwish,q⟩
 | brk=>obtain ⟨σ',H',I,q⟩:=h;exact ⟨σ',H',I.unwish,q⟩
 | cont=>obtain ⟨σ',H',I,q⟩:=h;exact ⟨σ',H',I.unwish,q⟩
 | ret u=>obtain ⟨v,σ',H',I,r,q⟩:=h;exact ⟨v,σ',H',I.unwish,r,q⟩
theorem PE.nox {e:Expr}{t:TE} (h:PE X.nox e t):PE X e t:=λpins s σ H Q I hw=>
 wpAny_mono (h pins s σ H Q (I.wish _) hw) (λ_ _ ⟨v,H',I',r,q⟩=>⟨v,H',I'.unwish,r,q⟩) λ_ _ z=>False.elim z
theorem PSs.nox {st:List Stmt}{t:TS} (h:PSs X.nox st t):PSs X st t:=λpins s σ H D I hw=>
 wpAny_mono (h pins s σ H D (I.wish _) hw) (λ_ _ q=>q.unwish) λ_ _ z=>False.elim z
end
section
variable {X:Cx}{st:Stmt}{rest:List Stmt}{t u:TS}{e:Expr}{te:TE}{pos:Pos}
def tNext:TS:=λD σ H=>D.nx σ H
def tSeq (t u:TS):TS:=λD σ H=>t { D with nx:=u D } σ H
theorem xv:PSs X [] tNext:=λ_ _ σ H _ I h=>wpAny_execs_nil ⟨σ,H,I,h⟩
theorem pss_cons (h1:PS X st t) (h2:PSs X rest u):PSs X (st::rest) (tSeq t u):=by
 intro pins s σ H D I h
 refine wpAny_execs_cons (thn (h1 pins s σ H { D with nx:=u D } I h) λf s1 q=>?_)
 cases f with
 | next=>
  obtain ⟨σ',H',I',q⟩:=q
  exact h2 pins s1 σ' H' D I' q
 | ret v=>exact q
 | brk=>exact q
 | cont=>exact q
theorem pss_one (h1:PS X st t):PSs X [st] t:=by
 intro pins s σ H D I h
 refine wpAny_execs_cons (thn (h1 pins s σ H D I h) λf s1 q=>?_)
 cases f with
 | next=>exact wpAny_execs_nil q
 | ret v=>exact q
 | brk=>exact q
 | cont=>exact q
theorem Inv.quiet {pins:List (Addr×Obj)}{σ:St}{H:Hp}{s:Shared} (I:Inv X pins σ H s):interactive X.env=false:=by simp [interactive,I.ok.kind]
def tDrop (te:TE):TS:=λD σ H=>te σ H λ_ H1=>D.nx σ H1
theorem wJ (he:PE X e te) (hs:swapsWith e none pos.line X.env=pure false:=by rfl):PS X (.Expr e pos) (tDrop te):=by
 intro pins s σ H D I h
 exact wpAny_Expr_any (thn (he pins s σ H _ I h) λv s1 ⟨x,H1,I1,r1,q1⟩=>⟨σ,H1,I1,q1⟩) I.quiet hs
def tRet (te:TE):TS:=λD σ H=>te σ H D.rt
theorem xl (he:PE X e te):PS X (.Return (some e) pos) (tRet te):=by
 intro pins s σ H D I h
 exact wpAny_Return_some (thn (he pins s σ H _ I h) λv s1 ⟨x,H1,I1,r1,q1⟩=>⟨x,σ,H1,I1,r1,q1⟩)
def tIfS (c:TT) (t u:TS):TS:=λD σ H=>c σ H λb H1=>if b=true then t D σ H1 else u D σ H1
theorem wA {c:Expr}{a b:List Stmt}{tc:TT} (hc:PT X c tc) (ha:PSs X a t) (hb:PSs X b u):PS X (.If c a b pos) (tIfS tc t u):=by
 intro pins s σ H D I h
 refine wpAny_If (thn (hc pins s σ H _ I h) λd s1 ⟨H1,I1,q1⟩=>?_)
 cases d with
 | true=>exact ha pins s1 σ H1 D I1 q1
 | false=>exact hb pins s1 σ H1 D I1 q1
def tNever:TS:=λ_ _ _=>False
theorem ps_never:PS X st tNever:=λ_ _ _ _ _ _ h=>h.elim
end
abbrev TG:=V->St->Hp->(St->Hp->Prop)->Prop
abbrev TGs:=List V->St->Hp->(St->Hp->Prop)->Prop
def PG (X:Cx) (target:Expr) (t:TG):Prop:=
 ∀ (pins:List (Addr×Obj)) (s:Shared) (σ:St) (H:Hp) (v:V) (u:Value) (Q:St->Hp->Prop),Inv X pins σ H s->RelV v u->t v σ H Q ->
  wpAny (model X.prog X.w) X.A (assign target X.env u) (λ_ s'=>∃ σ' H',Inv X pins σ' H' s'/\Q σ' H') X.xe s
def PGs (X:Cx) (ts:List Expr) (t:TGs):Prop:=
 ∀ (pins:List (Addr×Obj)) (s:Shared) (σ:St) (H:Hp) (vs:List V) (us:List Value) (Q:St->Hp->Prop),Inv X pins σ H s->Vals vs us->t vs σ H Q ->
  wpAny (model X.prog X.w) X.A (assignInOrder ((assignEach ts X.env).map (·.2)) us) (λ_ s'=>∃ σ' H',Inv X pins σ' H' s'/\Q σ' H') X.xe s
abbrev TSet:=V->V->V->Hp->(Hp->Prop)->Prop
def PSet (X:Cx) (t:TSet):Prop:=
 ∀ (pins:List (Addr×Obj)) (s:Shared) (σ:St) (H:Hp) (o i v:V) (ov iv u:Value) (Q:Hp->Prop),Inv X pins σ H s->RelV o ov->RelV i iv->RelV v u->t o i v H Q ->
  wpAny (model X.prog X.w) X.A (setItem ov iv u) (λ_ s'=>∃ H',Inv X pins σ H' s'/\Q H') X.xe s
abbrev TIp:=V->V->Hp->VK->Prop
def PIp (X:Cx) (op:Operator) (t:TIp):Prop:=
 ∀ (pins:List (Addr×Obj)) (s:Shared) (σ:St) (H:Hp) (x y:V) (v u:Value) (Q:VK),Inv X pins σ H s->RelV x v->RelV y u->t x y H Q ->
  wpAny (model X.prog X.w) X.A (inplaceOp op v u) (EP X pins σ Q) X.xe s
section
variable {X:Cx}{pos:Pos}
def gName (i:Nat):TG:=λv σ H Q=>Q (σ.set i (some v)) H
theorem xc {i:Nat}{x:Str} (hN:X.N.Nodup) (hi:X.N[i]?=some x) (hx:Loc X.env.scope x) (hf:X.fn x=true\/X.env.scope.names.lookup x=some .local:=by first | exact .inl rfl | exact .inr rfl | assumption):PG X (.Name x pos) (gName i):=by
 intro pins s σ H v u Q I r h
 exact wpAny_assign_Name (store_ok I hN hi hx r (λs' I'=>⟨_,H,I',h⟩) hf)
def gNil:TGs:=λvs σ H Q=>vs=[]/\Q σ H
def gCons (t:TG) (u:TGs):TGs:=λvs σ H Q=>∃ v r,vs=v::r/\t v σ H fun σ' H'=>u r σ' H' Q
theorem wB:PGs X [] gNil:=by
 intro pins s σ H vs us Q I r h
 obtain ⟨e,h⟩:=h
 subst e
 cases r
 exact assignInOrder_nil ⟨σ,H,I,h⟩
theorem xf {e:Expr}{es:List Expr}{t:TG}{u:TGs} (h1:PG X e t) (h2:PGs X es u)
  (hs:(assignEach (e::es) X.env).map (·.2)=assign e X.env::(assignEach es X.env).map (·.2):=by rfl):PGs X (e::es) (gCons t u):=by
 intro pins s σ H vs us Q I r h
 obtain ⟨v,vr,e1,h⟩:=h
 subst e1
 cases r with
 | cons r rr=>
  rw [hs]
  refine assignInOrder_cons (thn (h1 pins s σ H _ _ _ I r h) λ_ s1 ⟨σ1,H1,I1,q1⟩=>?_)
  exact h2 pins s1 σ1 H1 _ _ Q I1 rr q1
def gTup (K:PySem.W.Frag) (n:Nat) (t:TGs):TG:=λv σ H Q=>∃ a xs,v=.ref a/\SqT K H a xs/\xs.length=n/\t xs σ H Q
theorem pg_tup {es:List Expr}{k:Nat}{t:TGs}{n:Nat} (hc:X.calm=true) (h:PGs X es t)
  (hn:(assignEach es X.env).length=n:=by rfl) (hst:(assignEach es X.env).findIdx? (·.1)=none:=by rfl):PG X (.Tuple es k pos) (gTup X.K n t):=by
 intro pins s σ H v u Q I r hw
 obtain ⟨a,xs,e1,hq,hl,hw⟩:=hw
 subst e1
 cases r
 obtain ⟨its,rv,ht,hz⟩:=I.tuple hq
 refine assign_Tuple_tuple (I.ok.hd hc) ht (by simp [hn,<- hl,rv.length]) hst λh' hx=>?_
 have I1:Inv X pins σ H { s with heap:=h' }:=I.kept (t':=s.toks) λb o e=>hx b o (zU (Heap.lt_size e)) e
 exact h pins _ σ H xs _ Q I1 (by simpa using rv) hw
def gSub (to ti:TE) (t:TSet):TG:=λv σ H Q=>to σ H λo H1=>ti σ H1 λi H2=>t o i v H2 λH3=>Q σ H3
theorem pg_sub {o i:Expr}{to ti:TE}{t:TSet} (ho:PE X o to) (hi:PE X i ti) (hs:PSet X t)
  (ha:∀ v,assign (.Subscript o i pos) X.env v=(do
   let ov <- holding [v] (eval o X.env)
   let iv <- holding [v,ov] (eval i X.env)
   standAt pos
   holding [v,ov,iv] (setItem ov iv v)
   release [v,ov,iv] []):=by intro _;rfl):PG X (.Subscript o i pos) (gSub to ti t):=by
 intro pins s σ H v u Q I r h
 rw [ha]
 refine wpAny_bind (wpAny_holding (thn (ho pins s σ H _ I h) λov s1 ⟨x,H1,I1,r1,q1⟩=>?_))
 refine wpAny_bind (wpAny_holding (thn (hi pins s1 σ H1 _ I1 q1) λiv s2 ⟨y,H2,I2,r2,q2⟩=>?_))
 refine wpAny_bind (wpAny_standAt (wpAny_bind (wpAny_holding (thn (hs pins s2 σ H2 x y v ov iv u _ I2 r1 r2 r q2) λ_ s3 ⟨H3,I3,q3⟩=>?_))))
 exact wpAny_release ⟨σ,H3,I3,q3⟩
def tAsg (te:TE) (g:TG):TS:=λD σ H=>te σ H λx H1=>g x σ H1 D.nx
theorem wU {tg e:Expr}{te:TE}{g:TG} (he:PE X e te) (hg:PG X tg g) (hs:swapsWithSole [tg] e pos.line X.env=pure false:=by rfl) (hw:swappedStores [tg] e X.env=pure none:=by rfl)
  (h1:(assignEach [tg] X.env).map (·.2)=[assign tg X.env]:=by rfl):PS X (.Assign [tg] e pos) (tAsg te g):=by
 intro pins s σ H D I h
 refine wpAny_Assign_stores (thn (he pins s σ H _ I h) λv s1 ⟨x,H1,I1,r1,q1⟩=>?_) hs hw
 rw [h1]
 exact thn (hg pins s1 σ H1 x v _ I1 r1 q1) λ_ s2 q=>q
theorem xk {i:Nat}{x:Str}{e:Expr}{te:TE}{pos':Pos} (hN:X.N.Nodup) (hi:X.N[i]?=some x) (hx:Loc X.env.scope x) (he:PE X e te) (hs:swapsWith e (some (.Name x pos')) pos.line X.env=pure false:=by rfl) (hf:X.fn x=true\/X.env.scope.names.lookup x=some .local:=by first | exact .inl rfl | exact .inr rfl | assumption) :
  PS X (.Assign [.Name x pos'] e pos) (tAsg te (gName i)):=by
 intro pins s σ H D I h
 refine wpAny_Assign_Name (thn (he pins s σ H _ I h) λv s1 ⟨y,H1,I1,r1,q1⟩=>?_) hs
 exact store_ok I1 hN hi hx r1 (λs2 I2=>⟨_,H1,I2,q1⟩) hf
def tAug (i:Nat) (te:TE) (ti:TIp):TS:=λD σ H=>∃ x,σ[i]?=some (some x)/\te σ H λy H1=>ti x y H1 λz H2=>D.nx (σ.set i (some z)) H2
theorem ps_aug {i:Nat}{x:Str}{e:Expr}{te:TE}{op:Operator}{ti:TIp}{pos':Pos} (hN:X.N.Nodup) (hi:X.N[i]?=some x) (hx:Loc X.env.scope x) (he:PE X e te) (ho:PIp X op ti) (hf:X.fn x=true\/X.env.scope.names.lookup x=some .local:=by first | exact .inl rfl | exact .inr rfl | assumption) :
  PS X (.AugAssign (.Name x pos') op e pos) (tAug i te ti):=by
 intro pins s σ H D I h
 obtain ⟨v,e1,h⟩:=h
 obtain ⟨m,hn,hl⟩:=I.loc
 have vis:Vis X.env.scope x:=by rcases hx with k | k;exact .inl k;exact .inr (.inl k)
 obtain ⟨u,r,l⟩:=hl i x v hi e1 vis
 refine wpAny_AugAssign_Name ?_
 have go:wpAny (model X.prog X.w) X.A (eval e X.env) (λw s₂=>wpAny (model X.prog X.w) X.A (inplaceOp op u w) (λr s₃=>wpAny (model X.prog X.w) X.A (storeName X.env x r) (λ_=>SP X pins D .next) X.xe s₃) X.xe s₂) X.xe s:=by
  refine thn (he pins s σ H _ I h) λw s1 ⟨y,H1,I1,r1,q1⟩=>?_
  refine thn (ho pins s1 σ H1 v y u w _ I1 r r1 q1) λz s2 ⟨zv,H2,I2,r2,q2⟩=>?_
  exact store_ok I2 hN hi hx r2 (λs3 I3=>⟨_,H2,I3,q2⟩) hf
 rcases l with ⟨hk,hm⟩ | ⟨hk,c,hc,hcell⟩
 ·exact wpAny_loadName_local I.ok.kind hk hn hm go
 ·rcases hk with hk | hk
  ·exact wpAny_loadName_cell I.ok.kind hk hc hcell go
  ·rcases hx with k | k
   ·have:X.env.scope.names.lookup x=some .free:=hk
    rw [k] at this;cases this
   ·have:X.env.scope.names.lookup x=some .free:=hk
    rw [k] at this;cases this
def tAugS (to ti te:TE) (tget:V->V->Hp->VK->Prop) (tip:TIp) (tset:TSet):TS:=λD σ H=>to σ H λo H1=>ti σ H1 λi H2=>tget o i H2 λx H3=>te σ H3 λy H4=>tip x y H4 λz H5=>tset o i z H5 λH6=>D.nx σ H6
def PGet (X:Cx) (t:V->V->Hp->VK->Prop):Prop:=
 ∀ (pins:List (Addr×Obj)) (s:Shared) (σ:St) (H:Hp) (o i:V) (ov iv:Value) (Q:VK),Inv X pins σ H s->RelV o ov->RelV i iv->t o i H Q ->
  wpAny (model X.prog X.w) X.A (getItem ov iv) (EP X pins σ Q) X.xe s
theorem ps_augS {o i e:Expr}{to ti te:TE}{tget:V->V->Hp->VK->Prop}{tip:TIp}{tset:TSet}{op:Operator}{tpos:Pos} (ho:PE X o to) (hi:PE X i ti) (hg:PGet X tget) (he:PE X e te) (hp:PIp X op tip) (hs:PSet X tset)
  (ha:∀ ov iv new,augStore i ov iv new=(do holding [new,ov,iv] (setItem ov iv new);release [new,ov,iv] [];pure .next):=by intros;rfl):PS X (.AugAssign (.Subscript o i tpos) op e pos) (tAugS to ti te tget tip tset):=by
 intro pins s σ H D I h
 refine wpAny_AugAssign_SubscriptAny (thn (ho pins s σ H _ I h) λov s1 ⟨x1,H1,I1,r1,q1⟩=>?_) ha
 refine thn (hi pins s1 σ H1 _ I1 q1) λiv s2 ⟨x2,H2,I2,r2,q2⟩=>?_
 refine thn (hg pins s2 σ H2 x1 x2 ov iv _ I2 r1 r2 q2) λold s3 ⟨x3,H3,I3,r3,q3⟩=>?_
 refine thn (he pins s3 σ H3 _ I3 q3) λv s4 ⟨x4,H4,I4,r4,q4⟩=>?_
 refine thn (hp pins s4 σ H4 x3 x4 old v _ I4 r3 r4 q4) λnew s5 ⟨x5,H5,I5,r5,q5⟩=>?_
 exact thn (hs pins s5 σ H5 x1 x2 x5 ov iv new _ I5 r1 r2 r5 q5) λ_ s6 ⟨H6,I6,q6⟩=>⟨σ,H6,I6,q6⟩
def ipI (f:Int->Int->Int):TIp:=λx y H Q=>∃ i j,x=.int i/\y=.int j/\Q (.int (f i j)) H
theorem ip_add:PIp X .Add (ipI λi j=>i + j):=by
 intro pins s σ H x y v u Q I r1 r2 h
 obtain ⟨i,j,e1,e2,q⟩:=h
 subst e1;subst e2
 obtain ⟨t,rfl⟩:=r1
 obtain ⟨t',rfl⟩:=r2
 exact iadd_int ⟨.int _,H,I.tok _,⟨_,rfl⟩,q⟩
theorem ip_sub:PIp X .Sub (ipI λi j=>i - j):=by
 intro pins s σ H x y v u Q I r1 r2 h
 obtain ⟨i,j,e1,e2,q⟩:=h
 subst e1;subst e2
 obtain ⟨t,rfl⟩:=r1
 obtain ⟨t',rfl⟩:=r2
 exact isub_int ⟨.int _,H,I.tok _,⟨_,rfl⟩,q⟩
end
section
variable {X:Cx}{pos:Pos}
def tWhile (c:TT) (tb:TS):TS:=λD σ H=>∃ W:Nat->St->Hp->Prop,(∃ m,W m σ H)/\∀ m σ H,W m σ H ->
 c σ H λb H1=>if b=true then ∃ N:St->Hp->Prop,(∀ σ' H',N σ' H'->∃ m',m' < m/\W m' σ' H')/\tb { D with nx:=N,ct:=N,bk:=D.nx } σ H1 else D.nx σ H1
theorem ps_while {c:Expr}{body:List Stmt}{tc:TT}{tb:TS} (hp:PassesOwn (model X.prog X.w) X.A X.env X.xe) (hc:PT X c tc) (hb:PSs X body tb):PS X (.While c body [] pos) (tWhile tc tb):=by
 intro pins s σ H D I h
 obtain ⟨W,⟨m0,w0⟩,turn⟩:=h
 refine wpAny_While (codeAny_whileLoop (λn s'=>∃ σ' H',Inv X pins σ' H' s'/\W n σ' H') ?_ m0 ⟨σ,H,I,w0⟩)
 rintro n s1 ⟨σ1,H1,I1,w1⟩
 refine wpAny_passesOwn hp (thn (hc pins s1 σ1 H1 _ I1 (turn n σ1 H1 w1)) λb s2 ⟨H2,I2,q2⟩=>?_)
 cases b with
 | true=>
  obtain ⟨N,hN,q2⟩:=q2
  rw [if_pos rfl]
  refine wpAny_passesOwn hp (thn (hb pins s2 σ1 H2 _ I2 q2) λf s3 q3=>?_)
  cases f with
  | next=>
   obtain ⟨σ3,H3,I3,n3⟩:=q3
   obtain ⟨m',hm,w3⟩:=hN σ3 H3 n3
   exact ⟨m',hm,σ3,H3,I3,w3⟩
  | cont=>
   obtain ⟨σ3,H3,I3,n3⟩:=q3
   obtain ⟨m',hm,w3⟩:=hN σ3 H3 n3
   exact ⟨m',hm,σ3,H3,I3,w3⟩
  | brk=>exact q3
  | ret v=>exact q3
 | false=>
  rw [if_neg zJ]
  exact wpAny_execs_nil ⟨σ1,H2,I2,q2⟩
end
structure It where
 go:Nat->Hp->Prop
 yld:Nat->Hp->V->Hp->Prop
 stop:Nat->Hp->Prop
def FpOk (X:Cx) (pins:List (Addr×Obj)) (H:Hp) (b:Addr):Prop:=
 H b=none/\b≠X.env.locals/\b ∉ X.fs/\(b∈X.ex\/X.s₀.heap.objs.size<=b)/\(∀ x c,X.env.cells.lookup x=some c->c≠b)/\∀ p∈X.pn++pins,p.1≠b
theorem Inv.fpOk {X:Cx}{pins:List (Addr×Obj)}{σ:St}{H H':Hp}{s:Shared}{b:Addr} (I:Inv X pins σ H s) (hb:s.heap.objs.size<=b) (hn:H' b=none):FpOk X pins H' b:=by
 refine ⟨hn,yN (zR I.lt hb),I.nofs hb,.inr (z8 I.sz hb),λx c e z=>?_,λp hp z=>?_⟩
 ·obtain ⟨v,q⟩:=I.cell x c e
  exact absurd (zR q.lt (by rw [z];exact hb)) (yF _)
 ·exact absurd (zR (Heap.lt_size (I.pin p hp).1) (by rw [z];exact hb)) (yF _)
structure Turn (P:Program) (w:World) (K:PySem.W.Frag) (tg:Expr) (J:It) (fp:List Addr) (it:Addr) (tn:Nat->Heap->Prop):Prop where
 mem:it∈fp
 obj:∀ i h,tn i h->∀ b∈fp,∃ o,h.get? b=some o/\∀ v,o.data≠.cell v
 keep:∀ i h h',tn i h->(∀ b∈fp,∀ o,h.get? b=some o->h'.get? b=some o)->tn i h'
 item:∀ (X:Cx),X.prog=P->X.w=w->X.K=K->X.calm=true->∀ (i:Nat) (pins:List (Addr×Obj)) (s:Shared) (σ:St) (H:Hp) (E:Value->Shared->Prop),Inv X pins σ H s->(∀ b∈fp,FpOk X pins H b)->tn i s.heap->J.go i H ->
  wpAny (model P w) X.A (pyNext (.ref it)) (λr s1=>∃ u,r=some u /\
   wpAny (model P w) X.A (letOwnedTupleGo tg (.ref it) u) (λ_ s2=>∃ x H',Inv X pins σ H' s2/\RelV x u/\J.yld i H x H'/\tn (i + 1) s2.heap/\∀ b∈fp,H' b=none) E s1) E s
 done:∀ (X:Cx),X.prog=P->X.w=w->X.K=K->X.calm=true->∀ (i:Nat) (pins:List (Addr×Obj)) (s:Shared) (σ:St) (H:Hp) (E:Value->Shared->Prop),Inv X pins σ H s->(∀ b∈fp,FpOk X pins H b)->tn i s.heap->J.stop i H ->
  wpAny (model P w) X.A (pyNext (.ref it)) (λr s1=>r=none/\Inv X pins σ H s1) E s
 self:∀ (A:Around) (i:Nat) (s:Shared) (Q:Value->Shared->Prop) (E:Value->Shared->Prop),tn i s.heap->Q (.ref it) s->wpAny (model P w) A (pyIter (.ref it)) Q E s
abbrev TI:=St->Hp->(It->Hp->Prop)->Prop
def PIE (X:Cx) (pins:List (Addr×Obj)) (σ:St) (tg:Expr) (R:It->Hp->Prop) (itv:Value) (s2:Shared):Prop:=
 ∃ (it:Addr) (fp:List Addr) (tn:Nat->Heap->Prop) (J:It) (H':Hp),itv=.ref it/\Inv X pins σ H' s2/\Turn X.prog X.w X.K tg J fp it tn/\tn 0 s2.heap/\(∀ b∈fp,FpOk X pins H' b)/\R J H'
def PI (X:Cx) (tg iter:Expr) (wi:TI):Prop:=
 ∀ (pins:List (Addr×Obj)) (s:Shared) (σ:St) (H:Hp) (R:It->Hp->Prop),Inv X pins σ H s->wi σ H R ->
  wpAny (model X.prog X.w) X.A (eval iter X.env) (λv s1=>wpAny (model X.prog X.w) X.A (pyIter v) (PIE X pins σ tg R) X.xe s1) X.xe s
theorem go_of {M:Model}{A:Around}{E:Value->Shared->Prop}{s:Shared}{tg:Expr}{it:Addr}{u:Value}{o:Obj}{n:String}{vs:Array Value}{Q:Unit->Shared->Prop} (ho:s.heap.get? it=some o) (hc:o.cls=.type n) (hd:o.data=.fields vs)
    (hn:["enumerate", "zip", "dict_itemiterator", "dict_reverseitemiterator", "odict_iterator", "itertools.zip_longest", "itertools.pairwise"].contains n=false) (hQ:Q () s):wpAny M A (letOwnedTupleGo tg (.ref it) u) Q E s:=by
  unfold letOwnedTupleGo
  cases tg <;> first
    | exact wpAny_pure hQ
    | (cases u <;> first
        | exact wpAny_pure hQ
        | (refine wpAny_bind (wpAny_load ho ?_)
           rw [hc,hd]
           show wpAny M A (if (["enumerate", "zip", "dict_itemiterator", "dict_reverseitemiterator", "odict_iterator", "itertools.zip_longest", "itertools.pairwise"].contains n && vs[0]? == some (rawInt _))=true then _ else _) Q E s
           rw [if_neg (by intro h;rw [hn,yX] at h;cases h)]
           exact wpAny_pure hQ))
def Itl (K:PySem.W.Frag) (a:Addr):It:=
 ⟨λi H=>∃ xs x,SqL K H a xs/\xs[i]?=some x,λi H x H'=>H'=H/\∀ xs,SqL K H a xs->xs[i]?=some x,λi H=>∃ xs,SqL K H a xs/\xs.length<=i⟩
def Itt (K:PySem.W.Frag) (a:Addr):It:=
 ⟨λi H=>∃ xs x,SqT K H a xs/\xs[i]?=some x,λi H x H'=>H'=H/\∀ xs,SqT K H a xs->xs[i]?=some x,λi H=>∃ xs,SqT K H a xs/\xs.length<=i⟩
def Itr (lo:Int) (n:Nat):It:=⟨λi _=>i < n,λi H x H'=>H'=H/\x=.int (lo + i),λi _=>n<=i⟩
theorem turn_list {P:Program}{w:World}{K:PySem.W.Frag}{tg:Expr} (a it:Addr):Turn P w K tg (Itl K a) [it] it (λi h=>h.IsListIter it a i) where
 mem:=by simp
 obj:=λi h st b hb=>by
  have e:b=it:=by simpa using hb
  subst e
  obtain ⟨o,e,c,d⟩:=st
  exact ⟨o,e,λv z=>by rw [d] at z;cases z⟩
 keep:=λi h h' st k=>st.at λo e=>k it (by simp) o e
 item:=by
  intro X hP hw hK hc i pins s σ H E I hf st hg
  subst hP hw hK
  obtain ⟨xs,x,hq,hx⟩:=hg
  obtain ⟨its,rv,p,hz⟩:=I.list hq
  obtain ⟨u,hu,ru⟩:=rv.get hx
  obtain ⟨f0,f1,f2,f3,f4,f5⟩:=hf it (by simp)
  refine wpAny_pyNext_list_item st p.isList (x:=u) (by simpa using hu) λh' st' sb=>?_
  have I1:Inv X pins σ H { s with heap:=h' }:=I.turned (t':=s.toks) (λb o hb e=>(sb.2 b hb).trans e) f0 f1 f3 f4 f5
  obtain ⟨o,e,c,d⟩:=id st'
  exact ⟨u,rfl,go_of (s:={ s with heap:=h' }) e c d (by decide) ⟨x,H,I1,ru,⟨rfl,λys hy=>by rw [I.list_inj hy hq];exact hx⟩,st',λb hb=>(hf b hb).1⟩⟩
 done:=by
  intro X hP hw hK hc i pins s σ H E I hf st hg
  subst hP hw hK
  obtain ⟨xs,hq,hx⟩:=hg
  obtain ⟨its,rv,p,hz⟩:=I.list hq
  obtain ⟨f0,f1,f2,f3,f4,f5⟩:=hf it (by simp)
  have hl:=rv.length
  exact wpAny_pyNext_list_end (I.ok.hd hc) st p.isList (by simp;omega) λh' eb=>⟨rfl,I.turned (t':=s.toks) (λb o hb e=>eb b o hb e) f0 f1 f3 f4 f5⟩
 self:=λ_ _ _ _ _ st h=>wpAny_pyIter_listiter st h
theorem turn_tuple {P:Program}{w:World}{K:PySem.W.Frag}{tg:Expr} (a it:Addr):Turn P w K tg (Itt K a) [it] it (λi h=>h.IsTupleIter it a i) where
 mem:=by simp
 obj:=λi h st b hb=>by
  have e:b=it:=by simpa using hb
  subst e
  obtain ⟨o,e,c,d⟩:=st
  exact ⟨o,e,λv z=>by rw [d] at z;cases z⟩
 keep:=λi h h' st k=>st.at λo e=>k it (by simp) o e
 item:=by
  intro X hP hw hK hc i pins s σ H E I hf st hg
  subst hP hw hK
  obtain ⟨xs,x,hq,hx⟩:=hg
  obtain ⟨its,rv,p,hz⟩:=I.tuple hq
  obtain ⟨u,hu,ru⟩:=rv.get hx
  obtain ⟨f0,f1,f2,f3,f4,f5⟩:=hf it (by simp)
  refine wpAny_pyNext_tuple_item st (show s.heap.IsTuple a its.toArray from p) (x:=u) (by simpa using hu) λh' st' sb=>?_
  have I1:Inv X pins σ H { s with heap:=h' }:=I.turned (t':=s.toks) (λb o hb e=>(sb.2 b hb).trans e) f0 f1 f3 f4 f5
  obtain ⟨o,e,c,d⟩:=id st'
  exact ⟨u,rfl,go_of (s:={ s with heap:=h' }) e c d (by decide) ⟨x,H,I1,ru,⟨rfl,λys hy=>by rw [I.tuple_inj hy hq];exact hx⟩,st',λb hb=>(hf b hb).1⟩⟩
 done:=by
  intro X hP hw hK hc i pins s σ H E I hf st hg
  subst hP hw hK
  obtain ⟨xs,hq,hx⟩:=hg
  obtain ⟨its,rv,p,hz⟩:=I.tuple hq
  obtain ⟨f0,f1,f2,f3,f4,f5⟩:=hf it (by simp)
  have hl:=rv.length
  exact wpAny_pyNext_tuple_end (I.ok.hd hc) st (show s.heap.IsTuple a its.toArray from p) (by simp;omega) λh' eb=>⟨rfl,I.turned (t':=s.toks) (λb o hb e=>eb b o hb e) f0 f1 f3 f4 f5⟩
 self:=λ_ _ _ _ _ st h=>wpAny_pyIter_tupleiter st h
theorem turn_range {P:Program}{w:World}{K:PySem.W.Frag}{tg:Expr} (it:Addr) (lo:Int) (n:Nat):Turn P w K tg (Itr lo n) [it] it (λi h=>IsRangeIter h it (lo + (i:Nat) * 1) ((n:Int) - (i:Nat)) 1) where
 mem:=by simp
 obj:=λi h st b hb=>by
  have e:b=it:=by simpa using hb
  subst e
  exact ⟨_,st,λv z=>by
   have z':Data.fields _=Data.cell v:=z
   cases z'⟩
 keep:=λi h h' st k=>k it (by simp) _ st
 item:=by
  intro X hP hw hK hc i pins s σ H E I hf st hg
  subst hP hw hK
  obtain ⟨f0,f1,f2,f3,f4,f5⟩:=hf it (by simp)
  have W:=Walks.range (prog:=X.prog) (w:=X.w) (I.ok.hd hc) it lo 1 n
  refine W.item i s _ _ hg st λv h' tk hv st' kk=>?_
  obtain ⟨t,rfl⟩:=hv
  have I1:Inv X pins σ H { s with heap:=h',toks:=tk }:=I.turned (λb o hb e=>kk b o (by simpa using hb) e) f0 f1 f3 f4 f5
  refine ⟨_,rfl,go_of (s:={ s with heap:=h',toks:=tk }) (n := "range_iterator") st' rfl rfl (by decide) ⟨.int (lo + i),H,I1,⟨t,?_⟩,⟨rfl,rfl⟩,st',λb hb=>(hf b hb).1⟩⟩
  rw [Int.mul_one]
 done:=by
  intro X hP hw hK hc i pins s σ H E I hf st hg
  subst hP hw hK
  obtain ⟨f0,f1,f2,f3,f4,f5⟩:=hf it (by simp)
  exact wpAny_pyNext_range_end (I.ok.hd hc) st (by have:n<=i:=hg;omega) λh' eb=>⟨rfl,I.turned (t':=s.toks) (λb o hb e=>eb b o hb e) f0 f1 f3 f4 f5⟩
 self:=λ_ _ _ _ _ st h=>wpAny_pyIter_rangeiter st h
end L2
namespace L2
open PySem PySem.Spec PyProof.Rows
section
variable {X:Cx}{tg:Expr}
def iList (K:PySem.W.Frag) (tl:TE):TI:=fun σ H R=>tl σ H λx H1=>∃ a,x=.ref a/\(∃ xs,SqL K H1 a xs)/\R (Itl K a) H1
def iTup (K:PySem.W.Frag) (tl:TE):TI:=fun σ H R=>tl σ H λx H1=>∃ a,x=.ref a/\(∃ xs,SqT K H1 a xs)/\R (Itt K a) H1
theorem pi_list {l:Expr}{tl:TE} (hl:PE X l tl):PI X tg l (iList X.K tl):=by
 intro pins s σ H R I h
 refine thn (hl pins s σ H _ I h) λv s1 ⟨x,H1,I1,r1,q1⟩=>?_
 obtain ⟨a,e,⟨xs,hq⟩,q⟩:=q1
 subst e
 cases r1
 obtain ⟨its,rv,p,hz⟩:=I1.list hq
 refine wpAny_pyIter_list p.isList ?_
 refine ⟨s1.heap.objs.size,[s1.heap.objs.size],_,_,H1,rfl,I1.kept (t':=s1.toks) λb o e=>Heap.get?_push_of_some _ e,turn_list a _,⟨_,Heap.get?_push_size _ rfl,rfl,rfl⟩,λb hb=>?_,q⟩
 have e:b=s1.heap.objs.size:=by simpa using hb
 subst e
 exact I1.fpOk (zD _) (I1.hok.fresh (zD _))
theorem pi_tup {l:Expr}{tl:TE} (hl:PE X l tl):PI X tg l (iTup X.K tl):=by
 intro pins s σ H R I h
 refine thn (hl pins s σ H _ I h) λv s1 ⟨x,H1,I1,r1,q1⟩=>?_
 obtain ⟨a,e,⟨xs,hq⟩,q⟩:=q1
 subst e
 cases r1
 obtain ⟨its,rv,p,hz⟩:=I1.tuple hq
 refine wpAny_pyIter_tuple (show s1.heap.IsTuple a its.toArray from p) ?_
 refine ⟨s1.heap.objs.size,[s1.heap.objs.size],_,_,H1,rfl,I1.kept (t':=s1.toks) λb o e=>Heap.get?_push_of_some _ e,turn_tuple a _,⟨_,Heap.get?_push_size _ rfl,rfl,rfl⟩,λb hb=>?_,q⟩
 have e:b=s1.heap.objs.size:=by simpa using hb
 subst e
 exact I1.fpOk (zD _) (I1.hok.fresh (zD _))
theorem range_it {pins:List (Addr×Obj)}{σ:St}{H:Hp}{s:Shared}{R:It->Hp->Prop}{E:Value->Shared->Prop}{lo hi:Int}{t u v:Tok}{tk:Nat} (I:Inv X pins σ H s) (h1:-(2 ^ 62)<=lo) (h2:lo < 2 ^ 62) (h3:-(2 ^ 62)<=hi) (h4:hi < 2 ^ 62)
  (q:R (Itr lo (hi - lo).toNat) H):wpAny (model X.prog X.w) X.A (pyIter (.ref s.heap.objs.size)) (PIE X pins σ tg R) E { s with heap:=s.heap.push { cls:=.type "range", data:=.fields #[.int lo t,.int hi u,.int 1 v] },toks:=tk }:=by
 refine wpAny_pyIter_range (IsRange.new ..) (small_one h1 h2 h3 h4) ?_
 have I1:Inv X pins σ H { s with heap:=s.heap.push { cls:=.type "range", data:=.fields #[.int lo t,.int hi u,.int 1 v] },toks:=tk }:=I.kept λb o e=>Heap.get?_push_of_some _ e
 refine ⟨(s.heap.push { cls:=.type "range", data:=.fields #[.int lo t,.int hi u,.int 1 v] }).objs.size,[(s.heap.push { cls:=.type "range", data:=.fields #[.int lo t,.int hi u,.int 1 v] }).objs.size],_,_,H,rfl,
  I1.kept (t':=tk) λb o e=>Heap.get?_push_of_some _ e,turn_range _ lo (hi - lo).toNat,?_,λb hb=>?_,q⟩
 ·have e1:lo + ((0:Nat):Int) * 1=lo:=by simp
  have e2:(((hi - lo).toNat:Nat):Int) - ((0:Nat):Int)=Builtin.Range.rangeSize lo hi 1:=by rw [rangeSize_one];split <;> omega
  show IsRangeIter _ _ (lo + ((0:Nat):Int) * 1) ((((hi - lo).toNat:Nat):Int) - ((0:Nat):Int)) 1
  rw [e1,e2]
  exact Heap.get?_push_size _ rfl
 ·have e:b=(s.heap.push { cls:=.type "range", data:=.fields #[.int lo t,.int hi u,.int 1 v] }).objs.size:=by simpa using hb
  subst e
  exact I1.fpOk (zD _) (I1.hok.fresh (zD _))
def iRng1 (ta:TA):TI:=fun σ H R=>ta σ H λvs H1=>∃ j:Int,vs=[.int j]/\-(2 ^ 62)<=j/\j < 2 ^ 62/\R (Itr 0 j.toNat) H1
def iRng2 (ta:TA):TI:=fun σ H R=>ta σ H λvs H1=>∃ i j:Int,vs=[.int i,.int j]/\(-(2 ^ 62)<=i/\i < 2 ^ 62/\-(2 ^ 62)<=j/\j < 2 ^ 62)/\R (Itr i (j - i).toNat) H1
theorem wc {a:Expr}{ta:TA}{p pos:Pos} (hg:Gl X "range") (hm:X.mg "range" = none) (ha:PA X [a] ta) (hs:starEach [a] X.env=[(false,eval a X.env)]:=by rfl):PI X tg (.Call (.Name "range" p) [a] [] pos) (iRng1 ta):=by
 intro pins s σ H R I h
 refine Call_ (ld_blt I hg hm boot_range (yP (thn (ha pos pins s σ H _ I h) λus s1 ⟨vs,H1,I1,r1,q1⟩=>?_) hs rfl))
 obtain ⟨j,e,q1,q2,q⟩:=q1
 subst e
 cases r1 with
 | cons r rr=>
  cases rr
  obtain ⟨t,rfl⟩:=r
  exact call_range_1 (range_it I1 (by omega) (by omega) q1 q2 (by simpa using q))
theorem pi_range2 {a b:Expr}{ta:TA}{p pos:Pos} (hg:Gl X "range") (hm:X.mg "range" = none) (ha:PA X [a,b] ta) (hs:starEach [a,b] X.env=[(false,eval a X.env),(false,eval b X.env)]:=by rfl) (hs2:starEach [b] X.env=[(false,eval b X.env)]:=by rfl) :
  PI X tg (.Call (.Name "range" p) [a,b] [] pos) (iRng2 ta):=by
 intro pins s σ H R I h
 refine Call_ (ld_blt I hg hm boot_range (yP (thn (ha pos pins s σ H _ I h) λus s1 ⟨vs,H1,I1,r1,q1⟩=>?_) (by rw [hs,hs2]) (by rw [hs2];rfl)))
 obtain ⟨i,j,e,⟨q1,q2,q3,q4⟩,q⟩:=q1
 subst e
 cases r1 with
 | cons r rr=>
  cases rr with
  | cons r' rr=>
   cases rr
   obtain ⟨t,rfl⟩:=r
   obtain ⟨t',rfl⟩:=r'
   exact call_range_2 (range_it I1 q1 q2 q3 q4 q)
def tFor (wi:TI) (g:TG) (tb:TS):TS:=λD σ H=>wi σ H λJ H1=>∃ W:Nat->Nat->St->Hp->Prop,(∃ m,W 0 m σ H1)/\∀ i m σ H,W i m σ H ->
 (J.stop i H/\D.nx σ H)\/(J.go i H/\∃ N:St->Hp->Prop,(∀ σ' H',N σ' H'->∃ m',m' < m/\W (i + 1) m' σ' H')/\∀ x H',J.yld i H x H'->g x σ H' fun σ2 H2=>tb { D with nx:=N,ct:=N,bk:=D.nx } σ2 H2)
def pinsAt (fp:List Addr) (h:Heap):List (Addr×Obj):=fp.filterMap λb=>(h.get? b).map λo=>(b,o)
theorem wq {fp:List Addr}{h:Heap}{b:Addr}{o:Obj} (hb:b∈fp) (e:h.get? b=some o):(b,o)∈pinsAt fp h:=yh.mpr ⟨b,hb,by rw [e];rfl⟩
theorem of_pinsAt {fp:List Addr}{h:Heap}{p:Addr×Obj} (hp:p∈pinsAt fp h):p.1∈fp/\h.get? p.1=some p.2:=by
 obtain ⟨b,hb,e⟩:=yh.mp hp
 cases q:h.get? b with
 | none=>rw [q] at e;cases e
 | some o=>
  rw [q] at e
  have e':(b,o)=p:=Option.some.inj e
  subst e'
  exact ⟨hb,q⟩
theorem Inv.pinned {pins:List (Addr×Obj)}{σ:St}{H:Hp}{s:Shared}{fp:List Addr} (I:Inv X pins σ H s) (hf:∀ b∈fp,FpOk X pins H b) (ho:∀ b∈fp,∃ o,s.heap.get? b=some o/\∀ v,o.data≠.cell v):Inv X (pins++pinsAt fp s.heap) σ H s:=
 I.pins_of λp hp=>(zT.mp hp).elim (λz=>I.pin p (zP _ z)) λz=>by
  obtain ⟨hb,e⟩:=of_pinsAt z
  obtain ⟨f0,f1,f2,_⟩:=hf p.1 hb
  obtain ⟨o,e',d⟩:=ho p.1 hb
  rw [e] at e';cases e'
  exact ⟨e,f0,f1,f2,d⟩
theorem Inv.unpinned {pins pl:List (Addr×Obj)}{σ:St}{H:Hp}{s:Shared} (I:Inv X (pins++pl) σ H s):Inv X pins σ H s:=I.pins_of λp hp=>I.pin p (zP _ (zx _ hp))
theorem wV {iter:Expr}{body:List Stmt}{wi:TI}{g:TG}{tb:TS}{pos:Pos} (hp:PassesOwn (model X.prog X.w) X.A X.env X.xe) (hc:X.calm=true) (hi:PI X tg iter wi) (hg:PG X tg g) (hb:PSs X body tb)
  (hs:∀ x,foldedSetIterable iter X.env x=pure x:=by intro _;rfl):PS X (.For tg iter body [] pos) (tFor wi g tb):=by
 intro pins s σ H D I h
 refine wpAny_For (thn (hi pins s σ H _ I h) λv s1 h1=>thn h1 λitv s2 h2=>?_) hs
 obtain ⟨it,fp,tn,J,H2,e,I2,T,st2,f2,W,⟨m0,w0⟩,turn⟩:=h2
 subst e
 -- what stays true of the iterator's objects through the loop
 have stat:∀ {H':Hp},(∀ b∈fp,H' b=none)->∀ b∈fp,FpOk X pins H' b:=λhn b hb=>⟨hn b hb,(f2 b hb).2⟩
 refine codeAny_forLoop_any (λn s'=>∃ i σ' H',Inv X pins σ' H' s'/\tn i s'.heap/\(∀ b∈fp,H' b=none)/\W i n σ' H') ?_ m0 ⟨0,σ,H2,I2,st2,λb hb=>(f2 b hb).1,w0⟩
 rintro n s3 ⟨i,σ3,H3,I3,st3,fr3,w3⟩
 rcases turn i n σ3 H3 w3 with ⟨stop,qn⟩ | ⟨go,N,hN,step⟩
 ·refine wpAny_passesOwn hp (thn (T.done X rfl rfl rfl hc i pins s3 σ3 H3 X.xe I3 (stat fr3) st3 stop) λr s4 ⟨hr,I4⟩=>?_)
  subst hr
  exact wpAny_execs_nil ⟨σ3,H3,I4,qn⟩
 ·refine wpAny_passesOwn hp (thn (T.item X rfl rfl rfl hc i pins s3 σ3 H3 X.xe I3 (stat fr3) st3 go) λr s4 ⟨u,hr,h4⟩=>?_)
  subst hr
  refine wpAny_passesOwn hp (thn h4 λ_ s5 ⟨x,H5,I5,r5,y5,st5,fr5⟩=>?_)
  have I5':=I5.pinned (stat fr5) (T.obj _ _ st5)
  refine wpAny_passesOwn hp (thn (hg _ s5 σ3 H5 x u _ I5' r5 (step x H5 y5)) λ_ s6 ⟨σ6,H6,I6,q6⟩=>?_)
  refine wpAny_passesOwn hp (thn (hb _ s6 σ6 H6 _ I6 q6) λf s7 q7=>?_)
  have again:∀ {σ7:St} {H7:Hp},Inv X (pins++pinsAt fp s5.heap) σ7 H7 s7->N σ7 H7->∃ m,m < n/\∃ i σ' H',Inv X pins σ' H' s7/\tn i s7.heap/\(∀ b∈fp,H' b=none)/\W i m σ' H':=λ{σ7 H7} I7 n7=>by
   obtain ⟨m',hm,w7⟩:=hN σ7 H7 n7
   refine ⟨m',hm,i + 1,σ7,H7,I7.unpinned,T.keep _ _ _ st5 λb hb o e=>(I7.pin (b,o) (zP _ (zP _ (wq hb e)))).1,λb hb=>?_,w7⟩
   obtain ⟨o,e,d⟩:=T.obj _ _ st5 b hb
   exact (I7.pin (b,o) (zP _ (zP _ (wq hb e)))).2.1
  cases f with
  | next=>obtain ⟨σ7,H7,I7,n7⟩:=q7;exact again I7 n7
  | cont=>obtain ⟨σ7,H7,I7,n7⟩:=q7;exact again I7 n7
  | brk=>obtain ⟨σ7,H7,I7,q7⟩:=q7;exact ⟨σ7,H7,I7.unpinned,q7⟩
  | ret v=>obtain ⟨x7,σ7,H7,I7,r7,q7⟩:=q7;exact ⟨x7,σ7,H7,I7.unpinned,r7,q7⟩
end
theorem wr {K:PySem.W.Frag}{a:Addr}{xs:List V}{g:TG}{tb:TS}{D:Ends}{σ:St}{H:Hp} (Pv:Nat->St->Hp->Prop) (h0:Pv 0 σ H) (hl:∀ i σ H,i<=xs.length->Pv i σ H->SqL K H a xs)
  (hs:∀ i x σ H,xs[i]?=some x->Pv i σ H->g x σ H fun σ2 H2=>tb { D with nx:=Pv (i + 1),ct:=Pv (i + 1),bk:=D.nx } σ2 H2) (hd:∀ σ H,Pv xs.length σ H->D.nx σ H) :
  ∃ W:Nat->Nat->St->Hp->Prop,(∃ m,W 0 m σ H)/\∀ i m σ H,W i m σ H ->
   ((Itl K a).stop i H/\D.nx σ H)\/((Itl K a).go i H/\∃ N:St->Hp->Prop,(∀ σ' H',N σ' H'->∃ m',m' < m/\W (i + 1) m' σ' H')/\∀ x H',(Itl K a).yld i H x H'->g x σ H' fun σ2 H2=>tb { D with nx:=N,ct:=N,bk:=D.nx } σ2 H2):=by
 refine ⟨λi m σ H=>m=xs.length - i/\i<=xs.length/\Pv i σ H,⟨xs.length,by simp,zc _,h0⟩,?_⟩
 rintro i m σ H ⟨rfl,hi,p⟩
 have q:=hl i σ H hi p
 by_cases hlt:i < xs.length
 ·refine .inr ⟨⟨xs,xs[i],q,by simp [hlt]⟩,Pv (i + 1),fun σ' H' p'=>⟨xs.length - (i + 1),by omega,rfl,hlt,p'⟩,λx H' y=>?_⟩
  obtain ⟨e,y⟩:=y
  subst e
  exact hs i x σ _ (y xs q) p
 ·have e:i=xs.length:=by omega
  subst e
  exact .inl ⟨⟨xs,q,zD _⟩,hd σ H p⟩
theorem for_tup {K:PySem.W.Frag}{a:Addr}{xs:List V}{g:TG}{tb:TS}{D:Ends}{σ:St}{H:Hp} (Pv:Nat->St->Hp->Prop) (h0:Pv 0 σ H) (hl:∀ i σ H,i<=xs.length->Pv i σ H->SqT K H a xs)
  (hs:∀ i x σ H,xs[i]?=some x->Pv i σ H->g x σ H fun σ2 H2=>tb { D with nx:=Pv (i + 1),ct:=Pv (i + 1),bk:=D.nx } σ2 H2) (hd:∀ σ H,Pv xs.length σ H->D.nx σ H) :
  ∃ W:Nat->Nat->St->Hp->Prop,(∃ m,W 0 m σ H)/\∀ i m σ H,W i m σ H ->
   ((Itt K a).stop i H/\D.nx σ H)\/((Itt K a).go i H/\∃ N:St->Hp->Prop,(∀ σ' H',N σ' H'->∃ m',m' < m/\W (i + 1) m' σ' H')/\∀ x H',(Itt K a).yld i H x H'->g x σ H' fun σ2 H2=>tb { D with nx:=N,ct:=N,bk:=D.nx } σ2 H2):=by
 refine ⟨λi m σ H=>m=xs.length - i/\i<=xs.length/\Pv i σ H,⟨xs.length,by simp,zc _,h0⟩,?_⟩
 rintro i m σ H ⟨rfl,hi,p⟩
 have q:=hl i σ H hi p
 by_cases hlt:i < xs.length
 ·refine .inr ⟨⟨xs,xs[i],q,by simp [hlt]⟩,Pv (i + 1),fun σ' H' p'=>⟨xs.length - (i + 1),by omega,rfl,hlt,p'⟩,λx H' y=>?_⟩
  obtain ⟨e,y⟩:=y
  subst e
  exact hs i x σ _ (y xs q) p
 ·have e:i=xs.length:=by omega
  subst e
  exact .inl ⟨⟨xs,q,zD _⟩,hd σ H p⟩
theorem wd {lo:Int}{n:Nat}{g:TG}{tb:TS}{D:Ends}{σ:St}{H:Hp} (Pv:Nat->St->Hp->Prop) (h0:Pv 0 σ H)
  (hs:∀ i σ H,i < n->Pv i σ H->g (.int (lo + i)) σ H fun σ2 H2=>tb { D with nx:=Pv (i + 1),ct:=Pv (i + 1),bk:=D.nx } σ2 H2) (hd:∀ σ H,Pv n σ H->D.nx σ H) :
  ∃ W:Nat->Nat->St->Hp->Prop,(∃ m,W 0 m σ H)/\∀ i m σ H,W i m σ H ->
   ((Itr lo n).stop i H/\D.nx σ H)\/((Itr lo n).go i H/\∃ N:St->Hp->Prop,(∀ σ' H',N σ' H'->∃ m',m' < m/\W (i + 1) m' σ' H')/\∀ x H',(Itr lo n).yld i H x H'->g x σ H' fun σ2 H2=>tb { D with nx:=N,ct:=N,bk:=D.nx } σ2 H2):=by
 refine ⟨λi m σ H=>m=n - i/\i<=n/\Pv i σ H,⟨n,by simp,zc _,h0⟩,?_⟩
 rintro i m σ H ⟨rfl,hi,p⟩
 by_cases hlt:i < n
 ·refine .inr ⟨hlt,Pv (i + 1),fun σ' H' p'=>⟨n - (i + 1),by omega,rfl,hlt,p'⟩,λx H' y=>?_⟩
  obtain ⟨e,y⟩:=y
  subst e y
  exact hs i σ _ hlt p
 ·have e:i=n:=by omega
  subst e
  exact .inl ⟨zD _,hd σ H p⟩
theorem while_by {c:TT}{tb:TS}{D:Ends}{σ:St}{H:Hp} (Pv:St->Hp->Prop) (μ:St->Hp->Nat) (h0:Pv σ H)
  (hs:∀ σ H,Pv σ H->c σ H λb H1=>if b=true then tb { D with nx:=fun σ' H'=>Pv σ' H'/\μ σ' H' < μ σ H,ct:=fun σ' H'=>Pv σ' H'/\μ σ' H' < μ σ H,bk:=D.nx } σ H1 else D.nx σ H1)
  (mono:∀ σ H Q Q',(∀ b H1,Q b H1->Q' b H1)->c σ H Q->c σ H Q'):tWhile c tb D σ H:=by
 refine ⟨λm σ H=>m=μ σ H/\Pv σ H,⟨_,rfl,h0⟩,?_⟩
 rintro m σ H ⟨rfl,p⟩
 refine mono σ H _ _ (λb H1 q=>?_) (hs σ H p)
 cases b with
 | true=>exact ⟨_,fun σ' H' ⟨p',l⟩=>⟨_,l,rfl,p'⟩,q⟩
 | false=>exact q
end L2
namespace L2
open PySem PySem.Spec PyProof.Rows
abbrev R2:=V->V->Hp->VK->Prop
def OpR (X:Cx) (f:Value->Value->Sem Value) (r:R2):Prop:=
 ∀ (pins:List (Addr×Obj)) (s:Shared) (σ:St) (H:Hp) (x y:V) (v u:Value) (Q:VK),Inv X pins σ H s->RelV x v->RelV y u->r x y H Q ->
  wpAny (model X.prog X.w) X.A (f v u) (EP X pins σ Q) X.xe s
def UnR (X:Cx) (f:Value->Sem Value) (r:V->Hp->VK->Prop):Prop:=
 ∀ (pins:List (Addr×Obj)) (s:Shared) (σ:St) (H:Hp) (x:V) (v:Value) (Q:VK),Inv X pins σ H s->RelV x v->r x H Q ->
  wpAny (model X.prog X.w) X.A (f v) (EP X pins σ Q) X.xe s
def CallR (X:Cx) (f:Value) (r:List V->Hp->VK->Prop):Prop:=
 ∀ (pins:List (Addr×Obj)) (s:Shared) (σ:St) (H:Hp) (xs:List V) (us:List Value) (Q:VK),Inv X pins σ H s->Vals xs us->r xs H Q ->
  wpAny (model X.prog X.w) X.A (call f us) (EP X pins σ Q) X.xe s
def TruR (X:Cx) (r:V->Hp->(Bool->Hp->Prop)->Prop):Prop:=
 ∀ (pins:List (Addr×Obj)) (s:Shared) (σ:St) (H:Hp) (x:V) (v:Value) (Q:Bool->Hp->Prop),Inv X pins σ H s->RelV x v->r x H Q ->
  wpAny (model X.prog X.w) X.A (truthy v) (TP X pins σ Q) X.xe s
def tOp (r:R2) (ta tb:TE):TE:=fun σ H Q=>ta σ H λx H1=>tb σ H1 λy H2=>r x y H2 Q
def tUn (r:V->Hp->VK->Prop) (ta:TE):TE:=fun σ H Q=>ta σ H λx H1=>r x H1 Q
def rI (C:Int->Int->Prop) (g:Int->Int->V):R2:=λx y H Q=>∃ i j,x=.int i/\y=.int j/\C i j/\Q (g i j) H
def rI0 (g:Int->Int->V):R2:=λx y H Q=>∃ i j,x=.int i/\y=.int j/\Q (g i j) H
def rU (g:Int->V):V->Hp->VK->Prop:=λx H Q=>∃ i,x=.int i/\Q (g i) H
section
variable {X:Cx}{a b c:Expr}{ta tb tc:TE}{pos:Pos}
theorem binT (ha:PE X a ta) (hb:PE X b tb) {pins:List (Addr×Obj)}{s:Shared}{σ:St}{H:Hp}{R:V->V->Hp->Prop} (I:Inv X pins σ H s)
  (h:ta σ H λx H1=>tb σ H1 λy H2=>R x y H2) {Q:Value->Shared->Prop}{f:Value->Value->Sem Value}
  (hf:∀ v u s2 x y H2,Inv X pins σ H2 s2->RelV x v->RelV y u->R x y H2->wpAny (model X.prog X.w) X.A (f v u) Q X.xe s2) :
  wpAny (model X.prog X.w) X.A (eval a X.env) (λv s₁=>wpAny (model X.prog X.w) X.A (eval b X.env) (λu s₂=>wpAny (model X.prog X.w) X.A (f v u) Q X.xe s₂) X.xe s₁) X.xe s:=by
 refine thn (ha pins s σ H _ I h) λv s1 ⟨x,H1,I1,r1,q1⟩=>?_
 refine thn (hb pins s1 σ H1 _ I1 q1) λu s2 ⟨y,H2,I2,r2,q2⟩=>?_
 exact hf v u s2 x y H2 I2 r1 r2 q2
theorem xm {op:Operator}{r:R2} (ho:OpR X (binaryOp op) r) (ha:PE X a ta) (hb:PE X b tb):PE X (.BinOp a op b pos) (tOp r ta tb):=by
 intro pins s σ H Q I h
 exact wpAny_BinOp (binT ha hb I h λv u s2 x y H2 I2 rx ry q=>ho pins s2 σ H2 x y v u Q I2 rx ry q)
theorem pe_un {op:UnaryOp}{r:V->Hp->VK->Prop} (ho:UnR X (unaryOp op) r) (ha:PE X a ta):PE X (.UnaryOp op a pos) (tUn r ta):=by
 intro pins s σ H Q I h
 exact UnaryOp_ (thn (ha pins s σ H _ I h) λv s1 ⟨x,H1,I1,r1,q1⟩=>ho pins s1 σ H1 x v Q I1 r1 q1)
theorem opI {f:Value->Value->Sem Value}{C:Int->Int->Prop}{g:Int->Int->Int}
  (rule:∀ (i j:Int) (t u:Tok) (s:Shared) (Q:Value->Shared->Prop) (E:Value->Shared->Prop),C i j->Q (.int (g i j) s.toks) { s with toks:=s.toks + 1 }->wpAny (model X.prog X.w) X.A (f (.int i t) (.int j u)) Q E s) :
  OpR X f (rI C λi j=>.int (g i j)):=by
 intro pins s σ H x y v u Q I rx ry h
 obtain ⟨i,j,rfl,rfl,hc,q⟩:=h
 obtain ⟨t,rfl⟩:=rx
 obtain ⟨t',rfl⟩:=ry
 exact rule i j t t' s _ _ hc ⟨.int (g i j),H,I.tok _,⟨_,rfl⟩,q⟩
theorem opI0 {f:Value->Value->Sem Value}{g:Int->Int->Int}
  (rule:∀ (i j:Int) (t u:Tok) (s:Shared) (Q:Value->Shared->Prop) (E:Value->Shared->Prop),Q (.int (g i j) s.toks) { s with toks:=s.toks + 1 }->wpAny (model X.prog X.w) X.A (f (.int i t) (.int j u)) Q E s) :
  OpR X f (rI0 λi j=>.int (g i j)):=by
 intro pins s σ H x y v u Q I rx ry h
 obtain ⟨i,j,rfl,rfl,q⟩:=h
 obtain ⟨t,rfl⟩:=rx
 obtain ⟨t',rfl⟩:=ry
 exact rule i j t t' s _ _ ⟨.int (g i j),H,I.tok _,⟨_,rfl⟩,q⟩
theorem opB0 {f:Value->Value->Sem Value}{g:Int->Int->Bool}
  (rule:∀ (i j:Int) (t u:Tok) (s:Shared) (Q:Value->Shared->Prop) (E:Value->Shared->Prop),Q (.bool (g i j)) s->wpAny (model X.prog X.w) X.A (f (.int i t) (.int j u)) Q E s) :
  OpR X f (rI0 λi j=>.bl (g i j)):=by
 intro pins s σ H x y v u Q I rx ry h
 obtain ⟨i,j,rfl,rfl,q⟩:=h
 obtain ⟨t,rfl⟩:=rx
 obtain ⟨t',rfl⟩:=ry
 exact rule i j t t' s _ _ ⟨.bl (g i j),H,I,rfl,q⟩
def CPow (i j:Int):Prop:=0<=j/\j<=1000000/\i.natAbs < 2 ^ 64
def CMul (i j:Int):Prop:=(-(2 ^ 64) < i/\i < 2 ^ 64)\/(-(2 ^ 64) < j/\j < 2 ^ 64)
theorem CMul.ok {i j:Int} (h:CMul i j):IntMulOk i j:=by
 rcases h with ⟨h1,h2⟩ | ⟨h1,h2⟩
 ·exact .of_left (intBits_le_64 h1 h2)
 ·exact .of_right (intBits_le_64 h1 h2)
theorem wG:OpR X (binaryOp .Add) (rI0 λi j=>.int (i + j)):=opI0 λ_ _ _ _ _ _ _ q=>add_int q
theorem op_sub:OpR X (binaryOp .Sub) (rI0 λi j=>.int (i - j)):=opI0 λ_ _ _ _ _ _ _ q=>sub_int q
theorem wQ:OpR X (binaryOp .Mult) (rI CMul λi j=>.int (i * j)):=opI λ_ _ _ _ _ _ _ hc q=>mul_int q hc.ok
theorem op_mod:OpR X (binaryOp .Mod) (rI (λ_ j=>0 < j) λi j=>.int (i % j)):=opI λi j _ _ _ _ _ hc q=>by
 have h1:(0:Int) < j:=hc
 exact mod_int' (by omega) (by rw [Int.fmod_eq_emod_of_nonneg i (by omega)];exact q)
theorem op_pow:OpR X (binaryOp .Pow) (rI CPow λi j=>.int (i ^ j.toNat)):=opI λ_ _ _ _ _ _ _ hc q=>pow_int_small hc.1 hc.2.1 hc.2.2 q
theorem op_xor:OpR X (binaryOp .BitXor) (rI0 λi j=>.int (Builtin.bitXor i j)):=opI0 λ_ _ _ _ _ _ _ q=>xor_int q
theorem unI {f:Value->Sem Value}{g:Int->Int}
  (rule:∀ (i:Int) (t:Tok) (s:Shared) (Q:Value->Shared->Prop) (E:Value->Shared->Prop),Q (.int (g i) s.toks) { s with toks:=s.toks + 1 }->wpAny (model X.prog X.w) X.A (f (.int i t)) Q E s) :
  UnR X f (rU λi=>.int (g i)):=by
 intro pins s σ H x v Q I rx h
 obtain ⟨i,rfl,q⟩:=h
 obtain ⟨t,rfl⟩:=rx
 exact rule i t s _ _ ⟨.int (g i),H,I.tok _,⟨_,rfl⟩,q⟩
theorem un_neg:UnR X (unaryOp .USub) (rU λi=>.int (-i)):=unI λ_ _ _ _ _ q=>neg_int q
end
def scal:V->V->Bool
 | .non,.non=>true | .non,.int _=>true | .int _,.non=>true | .non,.bl _=>true | .bl _,.non=>true | .non,.str _=>true | .str _,.non=>true
 | .int _,.int _=>true | .bl _,.bl _=>true | .str _,.str _=>true | .byt _,.byt _=>true
 | .int _,.str _=>true | .str _,.int _=>true | .bl _,.str _=>true | .str _,.bl _=>true
 | _,_=>false
def rEq:R2:=λx y H Q=>scal x y=true/\Q (.bl (decide (x=y))) H
def rNe:R2:=λx y H Q=>scal x y=true/\Q (.bl (!decide (x=y))) H
theorem dec_int {i j:Int}:decide (V.int i=V.int j)=(i == j):=by
 rw [yw]
 simp
theorem dec_bl {i j:Bool}:decide (V.bl i=V.bl j)=(i == j):=by
 rw [yw]
 simp
theorem dec_str {i j:Str}:decide (V.str i=V.str j)=(i == j):=by
 rw [yw]
 simp
theorem dec_byt {i j:Array UInt8}:decide (V.byt i=V.byt j)=(i.toList == j.toList):=by
 rw [yw]
 cases i
 cases j
 simp
section
variable {X:Cx}{a b c:Expr}{ta tb tc:TE}{pos:Pos}
theorem wH {pins:List (Addr×Obj)}{σ:St}{H:Hp}{s:Shared}{Q:VK}{k k':Bool} (I:Inv X pins σ H s) (q:Q (.bl k) H) (e:k=k'):EP X pins σ Q (.bool k') s:=by
 subst e
 exact ⟨.bl k,H,I,rfl,q⟩
theorem wt:OpR X (compareOp .Eq) rEq:=by
 intro pins s σ H x y v u Q I rx ry h
 obtain ⟨hs,q⟩:=h
 cases x with
 | non=>
  cases rx
  cases y with
  | non=>cases ry;exact PySem.EqNone.eq_none_none (wH I q (by simp))
  | bl j=>cases ry;exact PySem.EqNone.eq_none_bool (wH I q (by simp))
  | int j=>obtain ⟨t',rfl⟩:=ry;exact PySem.EqNone.eq_none_int (wH I q (by simp))
  | str j=>obtain ⟨t',rfl⟩:=ry;exact PySem.EqNone.eq_none_str (wH I q (by simp))
  | _=>exact absurd (show false=true from hs) zJ
 | bl i=>
  cases rx
  cases y with
  | non=>cases ry;exact PySem.EqNone.eq_bool_none (wH I q (by simp))
  | bl j=>cases ry;exact eq_bool (wH I q dec_bl)
  | str j=>obtain ⟨t',rfl⟩:=ry;exact PySem.EqMixed.eq_bool_str (wH I q (by simp))
  | _=>exact absurd (show false=true from hs) zJ
 | int i=>
  obtain ⟨t,rfl⟩:=rx
  cases y with
  | non=>cases ry;exact PySem.EqNone.eq_int_none (wH I q (by simp))
  | int j=>obtain ⟨t',rfl⟩:=ry;exact eq_int (wH I q dec_int)
  | str j=>obtain ⟨t',rfl⟩:=ry;exact PySem.EqMixed.eq_int_str (wH I q (by simp))
  | _=>exact absurd (show false=true from hs) zJ
 | str i=>
  obtain ⟨t,rfl⟩:=rx
  cases y with
  | non=>cases ry;exact PySem.EqNone.eq_str_none (wH I q (by simp))
  | bl j=>cases ry;exact PySem.EqMixed.eq_str_bool (wH I q (by simp))
  | int j=>obtain ⟨t',rfl⟩:=ry;exact PySem.EqMixed.eq_str_int (wH I q (by simp))
  | str j=>obtain ⟨t',rfl⟩:=ry;exact eq_str (wH I q dec_str)
  | _=>exact absurd (show false=true from hs) zJ
 | byt i=>
  obtain ⟨t,rfl⟩:=rx
  cases y with
  | byt j=>obtain ⟨t',rfl⟩:=ry;exact PySem.W.eq_bytes (wH I q dec_byt)
  | _=>exact absurd (show false=true from hs) zJ
 | _=>cases y <;> exact absurd (show false=true from hs) zJ
theorem op_ne:OpR X (compareOp .NotEq) rNe:=by
 intro pins s σ H x y v u Q I rx ry h
 obtain ⟨hs,q⟩:=h
 cases x with
 | non=>
  cases rx
  cases y with
  | non=>cases ry;exact PySem.EqNone.ne_none_none (wH I q (by simp))
  | bl j=>cases ry;exact PySem.EqNone.ne_none_bool (wH I q (by simp))
  | int j=>obtain ⟨t',rfl⟩:=ry;exact PySem.EqNone.ne_none_int (wH I q (by simp))
  | str j=>obtain ⟨t',rfl⟩:=ry;exact PySem.EqNone.ne_none_str (wH I q (by simp))
  | _=>exact absurd (show false=true from hs) zJ
 | bl i=>
  cases rx
  cases y with
  | non=>cases ry;exact PySem.EqNone.ne_bool_none (wH I q (by simp))
  | bl j=>cases ry;exact ne_bool (wH I q (congrArg not dec_bl))
  | str j=>obtain ⟨t',rfl⟩:=ry;exact PySem.EqMixed.ne_bool_str (wH I q (by simp))
  | _=>exact absurd (show false=true from hs) zJ
 | int i=>
  obtain ⟨t,rfl⟩:=rx
  cases y with
  | non=>cases ry;exact PySem.EqNone.ne_int_none (wH I q (by simp))
  | int j=>obtain ⟨t',rfl⟩:=ry;exact ne_int (wH I q (congrArg not dec_int))
  | str j=>obtain ⟨t',rfl⟩:=ry;exact PySem.EqMixed.ne_int_str (wH I q (by simp))
  | _=>exact absurd (show false=true from hs) zJ
 | str i=>
  obtain ⟨t,rfl⟩:=rx
  cases y with
  | non=>cases ry;exact PySem.EqNone.ne_str_none (wH I q (by simp))
  | bl j=>cases ry;exact PySem.EqMixed.ne_str_bool (wH I q (by simp))
  | int j=>obtain ⟨t',rfl⟩:=ry;exact PySem.EqMixed.ne_str_int (wH I q (by simp))
  | str j=>obtain ⟨t',rfl⟩:=ry;exact ne_str (wH I q (congrArg not dec_str))
  | _=>exact absurd (show false=true from hs) zJ
 | byt i=>
  obtain ⟨t,rfl⟩:=rx
  cases y with
  | byt j=>obtain ⟨t',rfl⟩:=ry;exact PySem.W.ne_bytes (wH I q (congrArg not dec_byt))
  | _=>exact absurd (show false=true from hs) zJ
 | _=>cases y <;> exact absurd (show false=true from hs) zJ
theorem op_lt:OpR X (compareOp .Lt) (rI0 λi j=>.bl (decide (i < j))):=opB0 λ_ _ _ _ _ _ _ q=>lt_int q
theorem op_le:OpR X (compareOp .LtE) (rI0 λi j=>.bl (decide (i<=j))):=opB0 λ_ _ _ _ _ _ _ q=>le_int q
theorem op_gt:OpR X (compareOp .Gt) (rI0 λi j=>.bl (decide (j < i))):=opB0 λ_ _ _ _ _ _ _ q=>gt_int q
theorem op_ge:OpR X (compareOp .GtE) (rI0 λi j=>.bl (decide (j<=i))):=opB0 λ_ _ _ _ _ _ _ q=>ge_int q
theorem nomark (b:Expr) {op:CmpOp} (h:op≠.In:=by decide) (h2:op≠.NotIn:=by decide):behindInMarks op b=false:=by
 have e1:(op == CmpOp.In)=false:=by cases op <;> first | rfl | exact absurd rfl h
 have e2:(op == CmpOp.NotIn)=false:=by cases op <;> first | rfl | exact absurd rfl h2
 cases b <;> simp [behindInMarks,e1,e2]
theorem wj {op:CmpOp}{r:R2} (ho:OpR X (compareOp op) r) (ha:PE X a ta) (hb:PE X b tb) (hm:behindInMarks op b=false):PE X (.Compare a [op] [b] pos) (tOp r ta tb):=by
 intro pins s σ H Q I h
 exact wpAny_Compare1 (binT ha hb I h λv u s2 x y H2 I2 rx ry q=>ho pins s2 σ H2 x y v u Q I2 rx ry q) hm
def tTest (t:TE):TT:=fun σ H Q=>t σ H λx H'=>∃ k,x=.bl k/\Q k H'
theorem xq {op:CmpOp}{r:R2} (ho:OpR X (compareOp op) r) (ha:PE X a ta) (hb:PE X b tb) (hm:behindInMarks op b=false):PT X (.Compare a [op] [b] pos) (tTest (tOp r ta tb)):=by
 intro pins s σ H Q I h
 refine wpAny_isTrue_Compare1 (thn (ha pins s σ H _ I h) λv s1 ⟨x,H1,I1,r1,q1⟩=>thn (hb pins s1 σ H1 _ I1 q1) λu s2 ⟨y,H2,I2,r2,q2⟩=>
  thn (ho pins s2 σ H2 x y v u _ I2 r1 r2 q2) λc s3 ⟨z,H3,I3,r3,k,e,q3⟩=>?_) hm
 subst e
 cases r3
 exact wpAny_truthy_bool ⟨H3,I3,q3⟩
def tChain (r r':R2) (ta tb tc:TE):TE:=fun σ H Q=>ta σ H λx H1=>tb σ H1 λy H2=>r x y H2 λz H3=>∃ k,z=.bl k /\
 (if k=true then tc σ H3 λw' H4=>r' y w' H4 Q else Q (.bl false) H3)
theorem pe_chain {op op':CmpOp}{r r':R2} (ho:OpR X (compareOp op) r) (ho':OpR X (compareOp op') r') (ha:PE X a ta) (hb:PE X b tb) (hc:PE X c tc)
  (hm:lastMarks [op,op'] [b,c]=false:=by with_unfolding_all rfl):PE X (.Compare a [op,op'] [b,c] pos) (tChain r r' ta tb tc):=by
 intro pins s σ H Q I h
 refine Compare_chain (thn (ha pins s σ H _ I h) λv s1 ⟨x,H1,I1,r1,q1⟩=>chain_link (thn (hb pins s1 σ H1 _ I1 q1) λu s2 ⟨y,H2,I2,r2,q2⟩=>
  thn (ho pins s2 σ H2 x y v u _ I2 r1 r2 q2) λd s3 ⟨z,H3,I3,r3,k,e,q3⟩=>?_)) hm
 subst e
 cases r3
 refine wpAny_truthy_bool ?_
 cases k with
 | false=>exact ite_ff ⟨.bl false,H3,I3,rfl,q3⟩
 | true=>exact ite_tt (chain_last (thn (hc pins s3 σ H3 _ I3 q3) λw' s4 ⟨z',H4,I4,r4,q4⟩=>ho' pins s4 σ H4 y z' u w' Q I4 r2 r4 q4))
theorem pt_chain {op op':CmpOp}{r r':R2} (ho:OpR X (compareOp op) r) (ho':OpR X (compareOp op') r') (ha:PE X a ta) (hb:PE X b tb) (hc:PE X c tc)
  (hm:lastMarks [op,op'] [b,c]=false:=by with_unfolding_all rfl):PT X (.Compare a [op,op'] [b,c] pos) (tTest (tChain r r' ta tb tc)):=by
 intro pins s σ H Q I h
 refine isTrue_chain (thn (ha pins s σ H _ I h) λv s1 ⟨x,H1,I1,r1,q1⟩=>test_link (thn (hb pins s1 σ H1 _ I1 q1) λu s2 ⟨y,H2,I2,r2,q2⟩=>
  thn (ho pins s2 σ H2 x y v u _ I2 r1 r2 q2) λd s3 ⟨z,H3,I3,r3,k,e,q3⟩=>?_)) hm
 subst e
 cases r3
 refine wpAny_truthy_bool ?_
 cases k with
 | false=>
  obtain ⟨k',e',q'⟩:=q3
  cases e'
  exact ite_ff ⟨H3,I3,q'⟩
 | true=>
  refine ite_tt (test_last (thn (hc pins s3 σ H3 _ I3 q3) λw' s4 ⟨z',H4,I4,r4,q4⟩=>thn (ho' pins s4 σ H4 y z' u w' _ I4 r2 r4 q4) λd' s5 ⟨z2,H5,I5,r5,k2,e2,q5⟩=>?_))
  subst e2
  cases r5
  exact wpAny_truthy_bool ⟨H5,I5,q5⟩
def TruV (K:PySem.W.Frag) (x:V) (H:Hp) (k:Bool):Prop:=
 match x with
 | .non=>k=false
 | .bl b=>k=b
 | .int i=>k=(i != 0)
 | .str y=>y.length<=sizeLine/\k=((y.length:Int) != 0)
 | .byt y=>y.size<=sizeLine/\k=((y.size:Int) != 0)
 | .ref p=>(∃ xs,SqL K H p xs/\k=!xs.isEmpty)\/(∃ xs,SqT K H p xs/\k=!xs.isEmpty)\/∃ kvs,H p=some (.dK kvs)/\k=!kvs.isEmpty
 | _=>False
theorem isEmpty_kv {κ:Type}{kvs:List (κ×V)}{vs:List (κ×Value)} (r:KV kvs vs):(!vs.isEmpty)=!kvs.isEmpty:=by
 cases r <;> rfl
theorem isEmpty_of {xs:List V}{its:List Value} (r:Vals xs its):(!its.toArray.isEmpty)=!xs.isEmpty:=by
 cases r <;> simp
theorem line63:(sizeLine:Nat) < 2 ^ 63:=by rw [sizeLine_eq];decide
theorem tru_ok:TruR X (λx H Q=>∃ k,TruV X.K x H k/\Q k H):=by
 intro pins s σ H x v Q I rx h
 obtain ⟨k,e,q⟩:=h
 have hl:=line63
 have hs:sizeLine=16777216:=sizeLine_eq
 cases x with
 | non=>
  cases rx
  have e':k=false:=e
  subst e'
  exact truthy_none ⟨H,I,q⟩
 | bl b=>
  cases rx
  have e':k=b:=e
  subst e'
  exact wpAny_truthy_bool ⟨H,I,q⟩
 | int i=>
  obtain ⟨t,rfl⟩:=rx
  have e':k=(i != 0):=e
  subst e'
  exact PySem.P.truthy_int ⟨H,I,q⟩
 | str y=>
  obtain ⟨t,rfl⟩:=rx
  obtain ⟨hy,e'⟩:y.length<=sizeLine/\k=((y.length:Int) != 0):=e
  subst e'
  exact PySem.P.truthy_str (by omega) ⟨H,I.tok _,q⟩
 | byt y=>
  obtain ⟨t,rfl⟩:=rx
  obtain ⟨hy,e'⟩:y.size<=sizeLine/\k=((y.size:Int) != 0):=e
  subst e'
  exact PySem.W.truthy_bytes (by omega) ⟨H,I.tok _,q⟩
 | ref p=>
  cases rx
  have e':(∃ xs,SqL X.K H p xs/\k=!xs.isEmpty)\/(∃ xs,SqT X.K H p xs/\k=!xs.isEmpty)\/∃ kvs,H p=some (.dK kvs)/\k=!kvs.isEmpty:=e
  rcases e' with ⟨xs,hx,e'⟩ | ⟨xs,hx,e'⟩ | ⟨kvs,hx,e'⟩
  ·subst e'
   obtain ⟨its,r,pl,hz⟩:=I.list hx
   have hlen:=r.length
   exact wpAny_truthy_list pl.isList (by simp only [zM];omega) ⟨H,I.tok _,by rw [isEmpty_of r];exact q⟩
  ·subst e'
   obtain ⟨its,r,pl,hz⟩:=I.tuple hx
   have hlen:=r.length
   exact truthy_tuple pl (by simp only [zM];omega) ⟨H,I.tok _,by rw [isEmpty_of r];exact q⟩
  ·subst e'
   obtain ⟨hz,hS,vs,r,m⟩:kvs.length<=sizeLine/\(p == sysModules)=false/\∃ vs,KV kvs vs/\s.heap.DictOf (mixKind X.prog X.w) p vs:=I.hok p _ hx
   have hlen:kvs.length=vs.length:=Paired.length r
   exact wpAny_truthy_dict hS m (by omega) ⟨H,I.tok _,by rw [isEmpty_kv r];exact q⟩
 | _=>exact (show False from e).elim
theorem pt_truth (ha:PE X a ta) (he:∀ whole,isTrue a X.env whole=(do let v <- whole;standAt a.pos;holding [v] (truthy v))) :
  PT X a (fun σ H Q=>ta σ H λx H'=>∃ k,TruV X.K x H' k/\Q k H'):=by
 intro pins s σ H Q I h
 exact isTrue_plain (thn (ha pins s σ H _ I h) λv s1 ⟨x,H1,I1,r1,q1⟩=>tru_ok pins s1 σ H1 x v Q I1 r1 q1) (he _)
theorem vals1 {x:V}{us:List Value} (r:Vals [x] us):∃ u,us=[u]/\RelV x u:=by
 cases r with
 | cons r1 r2=>cases r2;exact ⟨_,rfl,r1⟩
theorem vals2 {x y:V}{us:List Value} (r:Vals [x,y] us):∃ u w',us=[u,w']/\RelV x u/\RelV y w':=by
 cases r with
 | cons r1 r2=>
  cases r2 with
  | cons r3 r4=>cases r4;exact ⟨_,_,rfl,r1,r3⟩
theorem call_max2 (hc:X.calm=true):CallR X (.builtin "max") (λxs H Q=>∃ i j,xs=[.int i,.int j]/\Q (.int (if j > i then j else i)) H):=by
 intro pins s σ H xs us Q I r h
 obtain ⟨i,j,rfl,q⟩:=h
 obtain ⟨u,w',rfl,⟨t,rfl⟩,⟨t',rfl⟩⟩:=vals2 r
 refine max_two_ints (I.ok.hd hc) λh' tk k=>⟨_,H,I.kept k,?_,q⟩
 by_cases hj:j > i
 ·rw [if_pos hj,if_pos hj];exact ⟨_,rfl⟩
 ·rw [if_neg hj,if_neg hj];exact ⟨_,rfl⟩
theorem call_min2 (hc:X.calm=true):CallR X (.builtin "min") (λxs H Q=>∃ i j,xs=[.int i,.int j]/\Q (.int (if j < i then j else i)) H):=by
 intro pins s σ H xs us Q I r h
 obtain ⟨i,j,rfl,q⟩:=h
 obtain ⟨u,w',rfl,⟨t,rfl⟩,⟨t',rfl⟩⟩:=vals2 r
 refine min_two_ints (I.ok.hd hc) λh' tk k=>⟨_,H,I.kept k,?_,q⟩
 by_cases hj:j < i
 ·rw [if_pos hj,if_pos hj];exact ⟨_,rfl⟩
 ·rw [if_neg hj,if_neg hj];exact ⟨_,rfl⟩
theorem call_int1:CallR X (.type "int") (λxs H Q=>(∃ i,xs=[.int i]/\Q (.int i) H)\/∃ k,xs=[.bl k]/\Q (.int (if k then 1 else 0)) H):=by
 intro pins s σ H xs us Q I r h
 rcases h with ⟨i,rfl,q⟩ | ⟨k,rfl,q⟩
 ·obtain ⟨u,rfl,t,rfl⟩:=vals1 r
  exact call_int_int ⟨.int i,H,I,⟨_,rfl⟩,q⟩
 ·obtain ⟨u,rfl,r1⟩:=vals1 r
  cases r1
  exact call_int_bool ⟨.int (if k then 1 else 0),H,I.tok _,⟨_,rfl⟩,q⟩
end
end L2
namespace L2
open PySem PySem.Spec PyProof.Rows
structure ObjM (h:Heap) (x dx C:Addr) (mA:Str->Option Value):Prop where
 obj:h.get? x=some (yZ C dx)
 ns:h.Ns1 dx mA
 ne:dx≠x
theorem lookIn_ns {h:Heap}{dx:Addr}{mA:Str->Option Value} (n:h.Ns1 dx mA):∃ od,h.get? dx=some od/\∀ name,PySem.W.lookIn name od=some (mA name):=by
 obtain ⟨o,es,ep,ho,hd,hk,_,hm⟩:=n
 refine ⟨o,ho,λname=>?_⟩
 have e:=hm name
 unfold nsFind findBy at e
 rw [<-Array.find?_toList] at e
 unfold PySem.W.lookIn
 rw [hd]
 dsimp only
 split
 ·rename_i y q
  rw [q] at e
  exact congrArg some e
 ·rename_i q
  rw [q] at e
  have a:es.toList.any (·.refKey)=false:=by
   rw [List.any_eq_false]
   intro y hy
   obtain ⟨z,t,hkey⟩:=hk y (Array.mem_toList_iff.mp hy)
   simp [DictEntry.refKey,hkey]
  have a':¬ es.toList.any (·.refKey)=true:=by rw [a];exact zJ
  rw [if_neg a']
  exact congrArg some e
theorem ObjM.look {h:Heap}{x dx C:Addr}{mA:Str->Option Value} (I:ObjM h x dx C mA):∃ od,PySem.W.InstAt h x (yZ C dx) C (some od)/\∀ name,PySem.W.lookIn name od=some (mA name):=
 let ⟨od,ho,hl⟩:=lookIn_ns I.ns
 ⟨od,⟨I.obj,rfl,rfl,ho⟩,hl⟩
section
variable {prog:Program}{w:World}{A:Around}{E:Value->Shared->Prop}{s:Shared}{K:PySem.W.Frag}{x dx C f:Addr}{mA:Str->Option Value}{name:Str}{v:Value}
theorem get_map {expr:Bool}{Q:Value->Shared->Prop} (X:K.In s.heap) (I:ObjM s.heap x dx C mA) (hg:xG K C name=true) (hh:PySem.W.hasDictIn K C=true)
  (ha:zg K (.ref C) name=some none) (hv:mA name=some v) (hv':PySem.W.handedIn v=true) (h:Q v { s with toks:=s.toks + 1 }) :
  wpAny (model prog w) A (getAttr (.ref x) name expr) Q E s:=by
 obtain ⟨od,J,hl⟩:=I.look
 exact PySem.W.get_value X J (PySem.W.plainGet_of hg).1 (PySem.W.findObj_own hh ha rfl (by rw [hl,hv])) hv' h
theorem get_meth {pl:Sem Bool}{Q:Value×List Value->Shared->Prop} (X:K.In s.heap) (I:ObjM s.heap x dx C mA) (hg:xG K C name=true)
  (hf:zg K (.ref C) name=some (some (.ref f))) (ht:ya K (.ref f)=true) (hv:mA name=none) (h:Q (.ref f,[.ref x]) s) :
  wpAny (model prog w) A (getMethod (.ref x) name pl) Q E s:=by
 obtain ⟨od,J,hl⟩:=I.look
 exact PySem.W.method_fn X J (PySem.W.plainGet_of hg).1 (PySem.W.plainGet_of hg).2 hf (beq_iff_eq.mp ht) (by show (PySem.W.lookIn name od).map (·.isSome)=some false;rw [hl,hv];rfl) h
theorem set_map {ns:List Str}{Q:Unit->Shared->Prop} (X:K.In s.heap) (I:ObjM s.heap x dx C mA)
  (hs:zg K (.ref C) "__setattr__" = some (some (.builtin "object.__setattr__"))) (hp:PySem.W.plainOver K C=true) (ht:PySem.W.takerIn K C name=some none) (hh:PySem.W.hasDictIn K C=true)
  (hw:PySem.Within mA ns) (hsz:ns.length<=sizeLine)
  (h:∀ h',ObjM h' x dx C (λy=>if y=name then some v else mA y)->Heap.SameBut dx s.heap h'->Q () { s with heap:=h',toks:=s.toks + 2 }) :
  wpAny (model prog w) A (setAttr (.ref x) name v) Q E s:=by
 obtain ⟨od,J,hl⟩:=I.look
 refine PySem.W.set_plain X J hs (PySem.W.osa_open (s:={ s with toks:=s.toks + 1 }) (r:=none) X J hp ht λb=>?_)
 obtain ⟨cd,hc,hd'⟩:=PySem.W.any_some hh
 have hx:s.heap.get? x=some ⟨.ref C,some dx,.plain,#[]⟩:=I.obj
 refine wpAny_bind (wpAny_pure (wpAny_bind (wpAny_bind (wpAny_loadPart hx (wpAny_bind (PySem.W.Looks.here (s:={ s with toks:=s.toks + 1 }) (PySem.W.looks_clsIn X hc) ?_))))))
 rw [hd']
 refine wpAny_pure (a:=some dx) (wpAny_bind (wpAny_pure (wpAny_bind ?_)))
 refine wpAny_nsSet1 (s:={ s with toks:=s.toks + 1 }) I.ns λh' hn2 hs2=>?_
 obtain ⟨oD,esD,epD,hoD,hdD,hcD⟩:=hn2.count (PySem.Within.cons name v hw)
 refine wpAny_bind (wpAny_lookBehind hoD (by rw [hdD];exact pastItsLine_dict (z8 hcD (by rw [zW];omega))) ?_)
 exact wpAny_pure (h _ ⟨(hs2.2 _ (Ne.symm I.ne)).trans I.obj,hn2,I.ne⟩ hs2)
theorem make_map {R:Result->Shared->Prop}{vs:List Value}{kw:List (Str×Value)} (X:K.In s.heap) (hm:PySem.W.makesIn K C=true)
  (hi:zg K (.ref C) "__init__" = some (some (.ref f))) (hf:PySem.W.typeIn K (.ref f)=some (.type "function"))
  (h:codeAny (model prog w) (A.under (.builtin "type.__call__" ⟨.ref C::vs,kw⟩)) (.call (.ref f) ⟨.ref (s.heap.objs.size + 1)::vs,kw⟩) (PySem.W.InitBack (s.heap.objs.size + 1) R)
   { s with heap:=(s.heap.push yK).push (yZ C s.heap.objs.size) }) :
  codeAny (model prog w) A (.call (.ref C) ⟨vs,kw⟩) R s:=by
 obtain ⟨hh,g,d,t,os⟩:=s
 exact PySem.W.make_core (PySem.W.makes_of X hm) (PySem.W.looks_findIn X hi) (λself=>PySem.W.bind_fn X self hf) (.inl rfl) h
end
def putF (f:Str) (v:V):List (Str×V)->List (Str×V)
 | []=>[(f,v)]
 | (g,x)::r=>if g=f then (g,v)::r else (g,x)::putF f v r
theorem lookup_putF (f g:Str) (v:V):∀ fs:List (Str×V),(putF f v fs).lookup g=if g=f then some v else fs.lookup g
 | []=>by
  show yr g [(f,v)]=_
  by_cases h:g=f
  ·have hb:(g == f)=true:=beq_iff_eq.mpr h
   simp only [yr,hb,if_pos h]
  ·have hb:(g == f)=false:=beq_eq_false_iff_ne.mpr h
   simp only [yr,hb,if_neg h]
 | (k,x)::r=>by
  have ih:=lookup_putF f g v r
  rw [show putF f v ((k,x)::r)=(if k=f then (k,v)::r else (k,x)::putF f v r) from rfl]
  by_cases hk:k=f
  ·rw [if_pos hk]
   by_cases h:g=k
   ·have hb:(g == k)=true:=beq_iff_eq.mpr h
    simp only [yr,hb,if_pos (h.trans hk)]
   ·have hb:(g == k)=false:=beq_eq_false_iff_ne.mpr h
    simp only [yr,hb,if_neg (λe:g=f=>h (e.trans hk.symm))]
  ·rw [if_neg hk]
   by_cases h:g=k
   ·have hb:(g == k)=true:=beq_iff_eq.mpr h
    simp only [yr,hb,if_neg (λe:g=f=>hk (h.symm.trans e))]
   ·have hb:(g == k)=false:=beq_eq_false_iff_ne.mpr h
    simp only [yr,hb]
    exact ih
theorem keys_putF (f:Str) (v:V):∀ fs:List (Str×V),f∈(putF f v fs).map (·.1)/\∀ g,g∈fs.map (·.1)->g∈(putF f v fs).map (·.1)
 | []=>⟨by simp [putF],λg h=>by simp at h⟩
 | (k,x)::r=>by
  obtain ⟨i1,i2⟩:=keys_putF f v r
  rw [show putF f v ((k,x)::r)=(if k=f then (k,v)::r else (k,x)::putF f v r) from rfl]
  by_cases hk:k=f
  ·rw [if_pos hk]
   subst hk
   exact ⟨by simp,λg h=>by simpa using h⟩
  ·rw [if_neg hk]
   refine ⟨?_,λg h=>?_⟩
   ·rw [zm]
    exact zf _ i1
   ·rw [zm] at h ⊢
    rcases zH.mp h with e | e
    ·exact zH.mpr (.inl e)
    ·exact zf _ (i2 g e)
theorem length_putF (f:Str) (v:V):∀ fs:List (Str×V),(putF f v fs).length<=fs.length + 1
 | []=>by simp [putF]
 | (k,x)::r=>by
  have ih:=length_putF f v r
  rw [show putF f v ((k,x)::r)=(if k=f then (k,v)::r else (k,x)::putF f v r) from rfl]
  by_cases hk:k=f
  ·rw [if_pos hk,zW,zW];omega
  ·rw [if_neg hk,zW,zW];omega
theorem RelO.some_of {v:V}{o:Option Value} (r:RelO (some v) o):∃ u,o=some u/\RelV v u:=by
 cases o with
 | none=>exact (show False from r).elim
 | some u=>exact ⟨u,rfl,r⟩
theorem RelO.none_of {o:Option Value} (r:RelO none o):o=none:=by
 cases o with
 | none=>rfl
 | some u=>exact (show False from r).elim
theorem handed_of {v:V}{u:Value} (r:RelV v u):PySem.W.handedIn u=true:=by
 cases v with
 | non=>cases (show u=Value.none from r);rfl
 | bl b=>cases (show u=Value.bool b from r);rfl
 | int i=>obtain ⟨t,e⟩:=(show ∃ t,u=Value.int i t from r);cases e;rfl
 | str x=>obtain ⟨t,e⟩:=(show ∃ t,u=Value.str x t from r);cases e;rfl
 | byt b=>obtain ⟨t,e⟩:=(show ∃ t,u=Value.bytes b t from r);cases e;rfl
 | flt b=>obtain ⟨t,e⟩:=(show ∃ t,u=Value.float b t from r);cases e;rfl
 | ref a=>cases (show u=Value.ref a from r);rfl
 | ty n=>cases (show u=Value.type n from r);rfl
section
variable {P:Program}{w:World}{H H':Hp}{h h':Heap}{a C dx:Addr}{fs fs':List (Str×V)}
theorem ins_get (hok:HOk P w H h) (e:H a=some (.ins C dx fs)):∃ mA,ObjM h a dx C mA/\(∀ f,RelO (fs.lookup f) (mA f))/\PySem.Within mA (fs.map (·.1))/\fs.length<=1000/\H dx=some (.own a):=by
 obtain ⟨d,z,ne,ob,mA,n,r,q⟩:=(show ObjOk P w H h a (.ins C dx fs) from hok a _ e)
 exact ⟨mA,⟨ob,n,ne⟩,r,q,z,d⟩
end
structure Cls (K:PySem.W.Frag) (C:Addr):Prop where
 pg:xG K C Str.empty=true
 hd:PySem.W.hasDictIn K C=true
 po:PySem.W.plainOver K C=true
 sa:zg K (.ref C) "__setattr__" = some (some (.builtin "object.__setattr__"))
theorem Cls.get {K:PySem.W.Frag}{C:Addr} (c:Cls K C) (f:Str):xG K C f=true:=c.pg
def NoAttr (K:PySem.W.Frag) (C:Addr) (f:Str):Prop:=zg K (.ref C) f=some none
theorem NoAttr.taker {K:PySem.W.Frag}{C:Addr}{f:Str} (n:NoAttr K C f):PySem.W.takerIn K C f=some none:=by
 unfold PySem.W.takerIn
 rw [show zg K (.ref C) f=some none from n]
 rfl
structure Meth (K:PySem.W.Frag) (C:Addr) (m:Str) (f:Addr):Prop where
 at_:zg K (.ref C) m=some (some (.ref f))
 fn:ya K (.ref f)=true
 kp:zG K (.ref f)=true
section
variable {X:Cx}{pins:List (Addr×Obj)}{σ:St}{H:Hp}{s:Shared}{a C dx:Addr}{fs:List (Str×V)}{f:Str}{v:V}{A:Around}{E:Value->Shared->Prop}
theorem getattr_ok {b:Bool}{Q:Value->Shared->Prop} (I:Inv X pins σ H s) (e:H a=some (.ins C dx fs)) (c:Cls X.K C) (n:NoAttr X.K C f) (l:fs.lookup f=some v)
  (h:∀ u s',Inv X pins σ H s'->RelV v u->Q u s'):wpAny (model X.prog X.w) A (getAttr (.ref a) f b) Q E s:=by
 obtain ⟨mA,O,r,_,_,_⟩:=ins_get I.hok e
 obtain ⟨u,hu,ru⟩:=RelO.some_of (v:=v) (o:=mA f) (by rw [<-l];exact r f)
 exact get_map I.kIn O (c.get f) c.hd n hu (handed_of ru) (h u _ (I.tok _) ru)
theorem getmeth_ok {m:Str}{g:Addr}{pl:Sem Bool}{Q:Value×List Value->Shared->Prop} (I:Inv X pins σ H s) (e:H a=some (.ins C dx fs)) (c:Cls X.K C) (k:Meth X.K C m g) (l:fs.lookup m=none)
  (h:Q (.ref g,[.ref a]) s):wpAny (model X.prog X.w) A (getMethod (.ref a) m pl) Q E s:=by
 obtain ⟨mA,O,r,_,_,_⟩:=ins_get I.hok e
 have hn:mA m=none:=RelO.none_of (by rw [<-l];exact r m)
 exact get_meth I.kIn O (c.get m) k.at_ k.fn hn h
theorem setattr_ok {y:V}{u:Value}{Q:Unit->Shared->Prop} (I:Inv X pins σ H s) (e:H a=some (.ins C dx fs)) (c:Cls X.K C) (n:NoAttr X.K C f) (hl:fs.length < 1000) (ry:RelV y u)
  (h:∀ s',Inv X pins σ (upd H a (.ins C dx (putF f y fs))) s'->Q () s'):wpAny (model X.prog X.w) A (setAttr (.ref a) f u) Q E s:=by
 obtain ⟨mA,O,r,wi,_,ho⟩:=ins_get I.hok e
 have hz:(fs.map (·.1)).length<=sizeLine:=by rw [zA,sizeLine_eq];omega
 refine set_map I.kIn O c.sa c.po n.taker c.hd wi hz λh' O' sb=>h _ ?_
 have hd:∃ o,h'.get? dx=some o:=let ⟨o,_,_,e',_⟩:=O'.ns;⟨o,e'⟩
 refine I.write (x:=a) (e:=dx) (by rw [e];exact True.intro) (.inr ho) (λb q hb z=>(sb.2 b hb).trans z) hd ?_
 refine ⟨by rw [xb O.ne];exact ho,?_,O.ne,O'.obj,_,O'.ns,λg=>?_,λg hg=>?_⟩
 ·have:=length_putF f y fs;omega
 ·show RelO ((putF f y fs).lookup g) (if g=f then some u else mA g)
  rw [lookup_putF]
  by_cases q:g=f
  ·rw [if_pos q,if_pos q];exact ry
  ·rw [if_neg q,if_neg q];exact r g
 ·by_cases q:g=f
  ·rw [q];exact (keys_putF f y fs).1
  ·refine (keys_putF f y fs).2 g (wi g λz=>hg ?_)
   show (if g=f then some u else mA g)=none
   rw [if_neg q];exact z
theorem Inv.made (I:Inv X pins σ H s):Inv X pins σ (upd (upd H s.heap.objs.size (.own (s.heap.objs.size + 1))) (s.heap.objs.size + 1) (.ins C s.heap.objs.size []))
  { s with heap:=(s.heap.push yK).push (yZ C s.heap.objs.size) }:=by
 have e1:(s.heap.push yK).get? s.heap.objs.size=some yK:=Heap.get?_push_size s.heap rfl
 have e2:((s.heap.push yK).push (yZ C s.heap.objs.size)).get? (s.heap.objs.size + 1)=some (yZ C s.heap.objs.size):=by
  have:=Heap.get?_push_size (s.heap.push yK) (o:=yZ C s.heap.objs.size) rfl
  rwa [Heap.size_push] at this
 have e3:(s.heap.push yK).Ns s.heap.objs.size (λ_=>none):=⟨yK,#[],_,e1,rfl,(λe he=>absurd he (by simp)),λ_=>rfl⟩
 have I1:=I.laid (a:=s.heap.objs.size) (o:=.own (s.heap.objs.size + 1)) (h':=s.heap.push yK) (t':=s.toks) (λb u q=>Heap.get?_push_of_some _ q) (zD _) ⟨_,e1⟩
 refine I1.laid (a:=s.heap.objs.size + 1) (o:=.ins C s.heap.objs.size []) (t':=s.toks) (λb u q=>Heap.get?_push_of_some _ q) (Nat.le_of_eq (Heap.size_push _ _)) ?_
 have ne:s.heap.objs.size≠s.heap.objs.size + 1:=zU (xH _)
 refine ⟨by rw [xb ne,xW],zc _,ne,e2,λ_=>none,(Heap.Ns1.of_empty e3).at λo q=>Heap.get?_push_of_some _ q,λ_=>True.intro,λy hy=>absurd rfl hy⟩
theorem attr_of {prog:Program}{w:World}{env:Env}{e:Expr}{f:Str}{pos:Pos}{s:Shared}{Q:Value->Shared->Prop} (hb:attributeBase e f env (eval e env)=eval e env)
  (h:wpAny (model prog w) A (eval e env) (λo s₁=>wpAny (model prog w) A (getAttr o f true) Q E s₁) E s):wpAny (model prog w) A (eval (.Attribute e f pos) env) Q E s:=
 Attribute_any_ h (by rw [arm_eval_Attribute,hb])
end
def tFld (K:PySem.W.Frag) (ta:TE) (f:Str):TE:=fun σ H Q=>ta σ H λx H1=>∃ a C dx fs v,x=.ref a/\H1 a=some (.ins C dx fs)/\Cls K C/\NoAttr K C f/\fs.lookup f=some v/\Q v H1
def sFld (K:PySem.W.Frag) (ta tv:TE) (f:Str):TS:=λD σ H=>tv σ H λy H1=>ta σ H1 λx H2=>∃ a C dx fs,x=.ref a/\H2 a=some (.ins C dx fs)/\Cls K C/\NoAttr K C f/\fs.length < 1000 /\
 D.nx σ (upd H2 a (.ins C dx (putF f y fs)))
def InOp (X:Cx) (op:Operator) (rd:V->V->Hp->VK->Prop):Prop:=
 ∀ (pins:List (Addr×Obj)) (s:Shared) (σ:St) (H:Hp) (x y:V) (u v:Value) (Q:VK),Inv X pins σ H s->RelV x u->RelV y v->rd x y H Q->wpAny (model X.prog X.w) X.A (inplaceOp op u v) (EP X pins σ Q) X.xe s
def sFldAug (K:PySem.W.Frag) (ta tv:TE) (rd:V->V->Hp->VK->Prop) (f:Str):TS:=λD σ H=>ta σ H λx H1=>∃ a C dx fs v,x=.ref a/\H1 a=some (.ins C dx fs)/\Cls K C/\NoAttr K C f/\fs.lookup f=some v /\
 tv σ H1 λy H2=>rd v y H2 λz H3=>∃ dx' fs',H3 a=some (.ins C dx' fs')/\fs'.length < 1000/\D.nx σ (upd H3 a (.ins C dx' (putF f z fs')))
section
variable {X:Cx}{o e value:Expr}{f:Str}{pos pos' tpos:Pos}{ta tv:TE}
theorem pe_fld (he:PE X e ta) (hb:attributeBase e f X.env (eval e X.env)=eval e X.env):PE X (.Attribute e f pos) (tFld X.K ta f):=by
 intro pins s σ H Q I h
 refine attr_of hb (thn (he pins s σ H _ I h) λu s1 ⟨x,H1,I1,rx,a,C,dx,fs,v,ex,ea,c,n,l,q⟩=>?_)
 subst ex
 obtain rfl:u=Value.ref a:=rx
 exact getattr_ok I1 ea c n l λu' s2 I2 ru=>⟨v,H1,I2,ru,q⟩
theorem ps_fld (ha:PE X o ta) (hv:PE X value tv) (hs:swapsWith value (some (.Attribute o f pos')) pos.line X.env=pure false):PS X (.Assign [.Attribute o f pos'] value pos) (sFld X.K ta tv f):=by
 intro pins s σ H D I h
 refine plainObj_wpAny_Assign_Attribute (thn (hv pins s σ H _ I h) λu s1 ⟨y,H1,I1,ry,q⟩=>thn (ha pins s1 σ H1 _ I1 q) λov s2 ⟨x,H2,I2,rx,a,C,dx,fs,ex,ea,c,n,l,q2⟩=>?_) hs
 subst ex
 obtain rfl:ov=Value.ref a:=rx
 exact setattr_ok I2 ea c n l ry λs3 I3=>⟨σ,_,I3,q2⟩
theorem ps_fldaug {op:Operator}{rd:V->V->Hp->VK->Prop} (ha:PE X o ta) (hv:PE X value tv) (hop:InOp X op rd):PS X (.AugAssign (.Attribute o f tpos) op value pos) (sFldAug X.K ta tv rd f):=by
 intro pins s σ H D I h
 refine wpAny_AugAssign_AttributeAny (thn (ha pins s σ H _ I h) λov s1 ⟨x,H1,I1,rx,a,C,dx,fs,v,ex,ea,c,n,l,q⟩=>?_)
 subst ex
 obtain rfl:ov=Value.ref a:=rx
 refine getattr_ok I1 ea c n l λu s2 I2 ru=>thn (hv pins s2 σ H1 _ I2 q) λw3 s3 ⟨y,H2,I3,ry,q3⟩=>thn (hop pins s3 σ H2 v y u w3 _ I3 ru ry q3) λw4 s4 ⟨z,H3,I4,rz,dx',fs',ea',l',q4⟩=>?_
 exact setattr_ok I4 ea' c n l' rz λs5 I5=>⟨σ,_,I5,q4⟩
end
section
variable {X:Cx}{pins:List (Addr×Obj)}{σ:St}{H:Hp}{s:Shared}{A:Around}{E:Value->Shared->Prop}{Q:Value->Shared->Prop}{c:Value}{b:Bool}
inductive TyOf (K:PySem.W.Frag) (H:Hp):V->Value->Prop where
 | non:TyOf K H .non (.type "NoneType")
 | bl (x:Bool):TyOf K H (.bl x) (.type "bool")
 | int (i:Int):TyOf K H (.int i) (.type "int")
 | str (x:Str):TyOf K H (.str x) (.type "str")
 | flt (x:UInt64):TyOf K H (.flt x) (.type "float")
 | lst {a:Addr}{xs:List V} (e:H a=some (.lst xs)):TyOf K H (.ref a) (.type "list")
 | frz {a:Addr}{o:Obj}{xs:List V} (e:H a=some (.frz o (.lst xs))):TyOf K H (.ref a) (.type "list")
 | tup {a:Addr}{xs:List V} (e:H a=some (.tup xs)):TyOf K H (.ref a) (.type "tuple")
 | dK {a:Addr}{kvs:List (Key×V)} (e:H a=some (.dK kvs)):TyOf K H (.ref a) (.type "dict")
 | dT {a:Addr}{kvs:List (List Key×V)} (e:H a=some (.dT kvs)):TyOf K H (.ref a) (.type "dict")
 | ins {a C dx:Addr}{fs:List (Str×V)} (e:H a=some (.ins C dx fs)) (cl:Cls K C) (ha:zg K (.ref C) "__class__" = some (some (.builtin "object.__class__")))
   (hn:PySem.W.specialIn K (.builtin "object.__class__") "__get__" = some (some (.builtin "getset_descriptor.__get__"))) (htk:PySem.W.takesIn K (.builtin "object.__class__")=some true)
   (hm:PySem.W.mroIn K C (.type "object")=some true):TyOf K H (.ref a) (.ref C)
theorem isinst_ok {x:V}{u t:Value} (I:Inv X pins σ H s) (rx:RelV x u) (ty:TyOf X.K H x t) (e:PySem.W.kitOne X.K t c=some b) (h:∀ tk,Q (.bool b) { s with toks:=tk }) :
  wpAny (model X.prog X.w) A (call (.builtin "isinstance") [u,c]) Q E s:=by
 cases ty with
 | non=>cases (show u=Value.none from rx);exact yG PySem.W.kitx_none I.kIn True.intro e (λz=>nomatch z) h
 | bl y=>cases (show u=Value.bool y from rx);exact yG PySem.W.kitx_bool I.kIn True.intro e (λz=>nomatch z) h
 | int i=>obtain ⟨t,q⟩:=(show ∃ t,u=Value.int i t from rx);cases q;exact yG PySem.W.kitx_int I.kIn True.intro e (λz=>nomatch z) h
 | str y=>obtain ⟨t,q⟩:=(show ∃ t,u=Value.str y t from rx);cases q;exact yG PySem.W.kitx_str I.kIn True.intro e (λz=>nomatch z) h
 | flt y=>obtain ⟨t,q⟩:=(show ∃ t,u=Value.float y t from rx);cases q;exact yG PySem.W.kitx_float I.kIn True.intro e (λz=>nomatch z) h
 | @lst a xs ea=>
  cases (show u=Value.ref a from rx)
  obtain ⟨_,_,n,_,h1⟩:=(show ObjOk X.prog X.w H s.heap a (.lst xs) from I.hok a _ ea)
  exact yG PySem.W.kitx_list I.kIn ⟨_,h1,rfl⟩ e (λz=>nomatch z) h
 | @frz a ob xs ea=>
  cases (show u=Value.ref a from rx)
  obtain ⟨_,_,_,n,_,h1⟩:=(show ObjOk X.prog X.w H s.heap a (.frz ob (.lst xs)) from I.hok a _ ea)
  exact yG PySem.W.kitx_list I.kIn ⟨_,h1,rfl⟩ e (λz=>nomatch z) h
 | @tup a xs ea=>
  cases (show u=Value.ref a from rx)
  obtain ⟨_,_,_,p⟩:=(show ObjOk X.prog X.w H s.heap a (.tup xs) from I.hok a _ ea)
  obtain ⟨o,h1,h2,_⟩:=p
  exact yG PySem.W.kitx_tuple I.kIn ⟨o,h1,h2⟩ e (λz=>nomatch z) h
 | @dK a kvs ea=>
  cases (show u=Value.ref a from rx)
  obtain ⟨_,_,vs,_,p⟩:=(show ObjOk X.prog X.w H s.heap a (.dK kvs) from I.hok a _ ea)
  obtain ⟨o,es,ep,h1,h2,_⟩:=p
  exact yG PySem.W.kitx_dict I.kIn ⟨o,h1,h2.1⟩ e (λz=>nomatch z) h
 | @dT a kvs ea=>
  cases (show u=Value.ref a from rx)
  obtain ⟨_,_,xs,_,o,es,ep,h1,h2,_⟩:=(show ObjOk X.prog X.w H s.heap a (.dT kvs) from I.hok a _ ea)
  exact yG PySem.W.kitx_dict I.kIn ⟨o,h1,h2.1⟩ e (λz=>nomatch z) h
 | @ins a C dx fs ea cl ha hn htk hm=>
  cases (show u=Value.ref a from rx)
  obtain ⟨mA,O,_⟩:=ins_get I.hok ea
  obtain ⟨od,J,_⟩:=O.look
  exact yG (PySem.W.kitx_own (cl.get _) cl.hd ha hn htk hm) I.kIn J e (λz=>nomatch z) h
end
end L2
namespace L2
open PySem PySem.Spec PyProof.Rows
structure Room (k:Nat) (A:Around):Prop where
 hd:A.handled=none
 dp:A.depth + 3 * k + 5 < recursionLimit
 un:A.units + 16 * k + 200 < cLine
theorem Room.mono {j k:Nat}{A:Around} (r:Room k A) (h:j<=k):Room j A:=⟨r.hd,by have:=r.dp;omega,by have:=r.un;omega⟩
theorem Room.deeper {k:Nat}{A:Around} (r:Room (k + 1) A) (env:Env):Room k (A.deeper env):=
 ⟨r.hd,by have:=r.dp;show A.depth + 1 + 3 * k + 5 < _;omega,by have:=r.un;show A.units + 3 + 16 * k + 200 < _;omega⟩
theorem Room.in1 {k:Nat}{A:Around} (r:Room (k + 1) A):Room k A.in1:=
 ⟨r.hd,by have:=r.dp;show A.depth + 3 * k + 5 < _;omega,by have:=r.un;show A.units + 1 + 16 * k + 200 < _;omega⟩
theorem make_depth {A:Around}{C:Addr}{us:List Value}{kw:List (Str×Value)}:(A.under (.builtin "type.__call__" ⟨.ref C::us,kw⟩)).depth=A.depth + 1:=by
 first | rfl | simp [Around.under,Code.weight,Code.isCreation,Code.isGuard,Code.isCaller,Code.frames,Code.isFrame,guardIds]
theorem make_units {A:Around}{C:Addr}{us:List Value}{kw:List (Str×Value)}:(A.under (.builtin "type.__call__" ⟨.ref C::us,kw⟩)).units=A.units + 1:=by
 first | rfl | simp [Around.under,Code.cUnits,Code.frames,Code.isFrame]
theorem Room.make {k:Nat}{A:Around} (r:Room (k + 1) A) (C:Addr) (us:List Value) (kw:List (Str×Value)):Room k (A.under (.builtin "type.__call__" ⟨.ref C::us,kw⟩)):=
 ⟨r.hd,by have:=r.dp;rw [make_depth];omega,by have:=r.un;rw [make_units];omega⟩
theorem Room.depth {k:Nat}{A:Around} (r:Room k A):A.depth < recursionLimit:=by have:=r.dp;omega
theorem Room.units {k:Nat}{A:Around} (r:Room k A):A.units + 64 < cLine:=by have:=r.un;omega
def tNil:TA:=λ_ H Q=>Q [] H
def tCons (ta:TE) (tr:TA):TA:=fun σ H Q=>ta σ H λx H1=>tr σ H1 λxs H2=>Q (x::xs) H2
section
variable {X:Cx}{e:Expr}{es:List Expr}{te:TE}{t:TA}{pos:Pos}
theorem wK:PA X [] tNil:=λ_ _ _ _ H Q I h=>Calls.spliced_nil ⟨[],H,I,.nil,h⟩
theorem pa_cons (ha:PE X e te) (hr:PA X es t) (hs:starEach (e::es) X.env=(false,eval e X.env)::starEach es X.env:=by rfl):PA X (e::es) (tCons te t):=by
 intro pos pins s σ H Q I h
 rw [hs]
 show wpAny _ _ (spliced ((false,eval e X.env)::backTo pos (starEach es X.env))) _ _ s
 refine Calls.spliced_cons (thn (ha pins s σ H _ I h) λu s1 ⟨x,H1,I1,r1,q1⟩=>?_)
 exact thn (hr pos pins s1 σ H1 _ I1 q1) λus s2 ⟨xs,H2,I2,r2,q2⟩=>⟨x::xs,H2,I2,.cons r1 r2,q2⟩
def tTup (t:TA):TE:=fun σ H Q=>t σ H λxs H1=>xs.length<=sizeLine/\∀ p,H1 p=none->Q (.ref p) (upd H1 p (.tup xs))
def tLst (t:TA):TE:=fun σ H Q=>t σ H λxs H1=>xs.length<=sizeLine/\∀ p,H1 p=none->Q (.ref p) (upd H1 p (.lst xs))
theorem wO {x1} (h:PA X es t):PE X (.Tuple es x1 pos) (tTup t):=by
 intro pins s σ H Q I hq
 refine wpAny_Tuple_spliced (thn (h pos pins s σ H _ I hq) λus s1 ⟨xs,H1,I1,r,z,q⟩=>⟨by rw [<-r.length];exact z,?_⟩)
 have hf:H1 s1.heap.objs.size=none:=I1.hok.fresh (zD _)
 refine ⟨.ref s1.heap.objs.size,upd H1 s1.heap.objs.size (.tup xs),I1.laid (t':=s1.toks) (λb u e=>Heap.get?_push_of_some _ e) (zD _) ?_,rfl,q _ hf⟩
 exact ⟨⟨z,new_bare⟩,us,r,⟨_,Heap.get?_push_size _ rfl,rfl,_,rfl⟩⟩
theorem wC (h:PA X es t):PE X (.List es pos) (tLst t):=by
 intro pins s σ H Q I hq
 refine wpAny_List_spliced (thn (h pos pins s σ H _ I hq) λus s1 ⟨xs,H1,I1,r,z,q⟩=>⟨by rw [<-r.length];exact z,?_⟩)
 have hf:H1 s1.heap.objs.size=none:=I1.hok.fresh (zD _)
 refine ⟨.ref s1.heap.objs.size,upd H1 s1.heap.objs.size (.lst xs),I1.laid (t':=s1.toks) (λb u e=>Heap.get?_push_of_some _ e) (zD _) ?_,rfl,q _ hf⟩
 exact ⟨z,us,0,r,Heap.get?_push_size _ rfl⟩
end
abbrev Sp:=List V->Hp->VK->XK->Prop
abbrev CXT:=List Env->Hp->Shared->XK->Value->Shared->Prop
structure Env0 (P:Program) (w:World) (K:PySem.W.Frag) (mg:Str->Option Value) (base:Heap) (A:Around) (outer:List Env) (s:Shared) (H:Hp):Prop where
 frames:A.frames=some outer
 mod:Mod K mg base
 bs:∀ b o,base.get? b=some o->s.heap.get? b=some o/\H b=none
 bsz:base.objs.size<=s.heap.objs.size
 funs:s.heap.FunFrames base outer
 frf:∀ b∈frs outer,H b=none
 hok:HOk P w H s.heap
 bare:AllBare s.gens
def CE (outer:List Env) (P:Program) (w:World) (H:Hp) (s:Shared) (Q:VK) (u:Value) (s':Shared):Prop:=
 ∃ v H',s'.os=s.os/\AllBare s'.gens/\Un (frs outer) [] H H' s.heap s'.heap/\HOk P w H' s'.heap/\RelV v u/\Q v H'
def CR (CX:CXT) (outer:List Env) (P:Program) (w:World) (H:Hp) (s:Shared) (Q:VK) (E:XK) (r:Result) (s':Shared):Prop:=
 match r with
 | .ok (.ret u)=>CE outer P w H s Q u s'
 | .ok _=>False
 | .error e=>CX outer H s E e s'
structure FnOk (P:Program) (w:World) (K:PySem.W.Frag) (mg:Str->Option Value) (base:Heap) (CX:CXT) (k:Nat) (f:Addr) (fd:FuncData) (ps:List Str) (sp:Sp):Prop where
 len:∀ vs H Q E,sp vs H Q E->vs.length=ps.length
 run:∀ (A:Around) (outer:List Env) (s:Shared) (H:Hp) (args:Args) (us:List Value) (vs:List V) (Q:VK) (E:XK),Room k A->Env0 P w K mg base A outer s H->BindsTo s fd args (ps.zip us)->Vals vs us->sp vs H Q E ->
  codeAny (model P w) A (.call (.ref f) args) (CR CX outer P w H s Q E) s
theorem Env0.make {P:Program}{w:World}{K:PySem.W.Frag}{mg:Str->Option Value}{base:Heap}{A:Around}{outer:List Env}{s:Shared}{H:Hp} (e:Env0 P w K mg base A outer s H) (C:Addr) (us:List Value) (kw:List (Str×Value)) :
  Env0 P w K mg base (A.under (.builtin "type.__call__" ⟨.ref C::us,kw⟩)) outer s H:=⟨by first | exact e.frames | (simpa [Around.under,Code.envs,Code.isFrame,pushEnvs] using e.frames),e.mod,e.bs,e.bsz,e.funs,e.frf,e.hok,e.bare⟩
theorem Env0.in1 {P:Program}{w:World}{K:PySem.W.Frag}{mg:Str->Option Value}{base:Heap}{A:Around}{outer:List Env}{s:Shared}{H:Hp} (e:Env0 P w K mg base A outer s H) :
  Env0 P w K mg base A.in1 outer s H:=⟨e.frames,e.mod,e.bs,e.bsz,e.funs,e.frf,e.hok,e.bare⟩
section
variable {X:Cx}{pins:List (Addr×Obj)}{σ:St}{H:Hp}{s s':Shared}
theorem Inv.env0 (I:Inv X pins σ H s):Env0 X.prog X.w X.K X.mg X.base X.A X.stack s H:=
 ⟨I.ok.frames,I.ok.mod,I.bs,z8 I.ok.bsz I.sz,I.stack,I.stkFree,I.hok,I.bare⟩
theorem Inv.after {Q:VK}{u:Value} (I:Inv X pins σ H s) (h:CE X.stack X.prog X.w H s Q u s'):EP X pins σ Q u s':=by
 obtain ⟨v,H',os,bare,un,hok,r,q⟩:=h
 obtain ⟨hh,g,d,t,os'⟩:=s'
 obtain rfl:os'=s.os:=os
 exact ⟨v,H',I.call (h':=hh) (g':=g) (d':=d) (t':=t) (ch:=[]) un hok bare (λb z=>absurd z (by simp)),r,q⟩
end
def tCall (sp:Sp) (dvs:List V) (E:XK) (t:TA):TE:=fun σ H Q=>t σ H λvs H1=>sp (vs++dvs) H1 Q E
def tMeth (C:Addr) (m:Str) (sp:Sp) (dvs:List V) (E:XK) (ta:TE) (t:TA):TE:=fun σ H Q=>ta σ H λx H1=>∃ a dx fs,x=.ref a/\H1 a=some (.ins C dx fs)/\fs.lookup m=none /\
 t σ H1 λvs H2=>sp (x::(vs++dvs)) H2 Q E
def tMake (C:Addr) (sp:Sp) (dvs:List V) (E:XK) (t:TA):TE:=fun σ H Q=>t σ H λvs H1=>∀ x dx,H1 x=none->H1 dx=none->dx≠x ->
 sp (.ref x::(vs++dvs)) (upd (upd H1 dx (.own x)) x (.ins C dx [])) (λv H2=>v=.non/\Q (.ref x) H2) E
def Binds (K:PySem.W.Frag) (fd:FuncData) (ps:List Str) (ds:List Value):Prop:=
 ∀ (s:Shared) (us:List Value),K.In s.heap->(us++ds).length=ps.length->BindsTo s fd ⟨us,[]⟩ (ps.zip (us++ds))
theorem Binds.all {K:PySem.W.Frag}{fd:FuncData}{ps:List Str} (h:∀ us:List Value,us.length=ps.length->bindArgs fd ⟨us,[]⟩=pure (ps.zip us)):Binds K fd ps []:=λs us _ hl=>by
 rw [zn] at hl ⊢
 exact .of_eq (h us hl)
def Passes (CX:CXT) (X:Cx) (E:XK):Prop:=∀ (pins:List (Addr×Obj)) (σ:St) (H:Hp) (s:Shared) (e:Value) (s':Shared),Inv X pins σ H s->CX X.stack H s E e s'->X.xe e s'
section
variable {X:Cx}{CX:CXT}{k:Nat}{f C:Addr}{fd:FuncData}{ps:List Str}{sp:Sp}{dvs:List V}{ds:List Value}{E:XK}{x m:Str}{p pos apos:Pos}{e o:Expr}{es:List Expr}{ta:TE}{t:TA}
theorem run_fn {pins:List (Addr×Obj)}{σ:St}{H:Hp}{s:Shared}{Q:VK}{us:List Value}{vs:List V} (F:FnOk X.prog X.w X.K X.mg X.base CX k f fd ps sp) (hr:Room k X.A) (hb:Binds X.K fd ps ds) (hd:Vals dvs ds) (hx:Passes CX X E)
  (I:Inv X pins σ H s) (r:Vals vs us) (h:sp (vs++dvs) H Q E):wpAny (model X.prog X.w) X.A (call (.ref f) us) (EP X pins σ Q) X.xe s:=by
 have r2:Vals (vs++dvs) (us++ds):=r.append hd
 have hl:(us++ds).length=ps.length:=by rw [<-r2.length];exact F.len _ _ _ _ h
 refine wpAny_call (codeAny_mono (F.run X.A X.stack s H ⟨us,[]⟩ (us++ds) (vs++dvs) Q E hr I.env0 (hb s us I.kIn hl) r2 h) λr s' hq=>?_)
 cases r with
 | error e=>exact hx pins σ H s e s' I hq
 | ok fl=>
  cases fl with
  | ret u=>exact I.after hq
  | next=>exact False.elim hq
  | brk=>exact False.elim hq
  | cont=>exact False.elim hq
theorem xh (F:FnOk X.prog X.w X.K X.mg X.base CX k f fd ps sp) (hr:Room k X.A) (hg:Gl X x) (hm:X.mg x=some (.ref f)) (hk:zG X.K (.ref f)=true) (hb:Binds X.K fd ps ds) (hd:Vals dvs ds) (hx:Passes CX X E)
  (ha:PA X (e::es) t) (hdb:(x == ("__debug__" : Str))=false:=by decide) (he:starEach (e::es) X.env=(false,eval e X.env)::starEach es X.env:=by rfl) (hpl:(backTo pos (starEach es X.env)).any (·.1)=false:=by rfl) :
  PE X (.Call (.Name x p) (e::es) [] pos) (tCall sp dvs E t):=by
 intro pins s σ H Q I h
 refine wpAny_Call_Name_kw (ld_glob I hg hm ?_ hdb)
 refine PySem.W.callWith_K (h₀:=X.base) I.ok.mod.kin hk (thn (ha pos pins s σ H _ I h) λus s1 ⟨vs,H1,I1,r,q⟩=>⟨I1.kIn,?_⟩) he hpl
 exact run_fn F hr hb hd hx I1 r q
theorem pe_meth {pl:Sem Bool} (he:PE X o ta) (c:Cls X.K C) (hm:Meth X.K C m f) (F:FnOk X.prog X.w X.K X.mg X.base CX k f fd ps sp) (hr:Room k X.A) (hb:Binds X.K fd ps ds) (hd:Vals dvs ds) (hx:Passes CX X E) (ha:PA X (e::es) t)
  (hst:starEach (e::es) X.env=(false,eval e X.env)::starEach es X.env:=by rfl) (hpl:(backTo pos (starEach es X.env)).any (·.1)=false:=by rfl)
  (ht:eval (.Call (.Attribute o m apos) (e::es) [] pos) X.env=(do
   let ov <- eval o X.env
   standAt apos.atName
   let (f,first) <- holding [ov] (getMethod ov m pl)
   callWith pos f first (backTo pos (starEach (e::es) X.env)) (backToKw pos (keywordEach [] X.env))):=by rfl) :
  PE X (.Call (.Attribute o m apos) (e::es) [] pos) (tMeth C m sp dvs E ta t):=by
 intro pins s σ H Q I h
 refine PySem.W.methodCall_KW (pl:=pl) (thn (he pins s σ H _ I h) λu s1 ⟨x,H1,I1,rx,a,dx,fs,ex,ea,l,q⟩=>?_) ht
 subst ex
 obtain rfl:u=Value.ref a:=rx
 refine getmeth_ok I1 ea c hm l ?_
 refine PySem.W.callWith_K (first:=[.ref a]) (h₀:=X.base) I.ok.mod.kin hm.kp (thn (ha pos pins s1 σ H1 _ I1 q) λus s2 ⟨vs,H2,I2,r,q2⟩=>⟨I2.kIn,?_⟩) hst hpl
 exact run_fn (us:=.ref a::us) (vs:=.ref a::vs) F hr hb hd hx I2 (.cons rfl r) q2
structure Mk (K:PySem.W.Frag) (C f:Addr):Prop where
 makes:PySem.W.makesIn K C=true
 init:zg K (.ref C) "__init__" = some (some (.ref f))
 fn:ya K (.ref f)=true
 kp:zG K (.ref C)=true
theorem run_make {pins:List (Addr×Obj)}{σ:St}{H:Hp}{s:Shared}{Q:VK}{us:List Value}{vs:List V} (M:Mk X.K C f) (F:FnOk X.prog X.w X.K X.mg X.base CX k f fd ps sp) (hr:Room (k + 1) X.A) (hb:Binds X.K fd ps ds) (hd:Vals dvs ds)
  (hx:Passes CX X E) (I:Inv X pins σ H s) (r:Vals vs us)
  (h:∀ x dx,H x=none->H dx=none->dx≠x->sp (.ref x::(vs++dvs)) (upd (upd H dx (.own x)) x (.ins C dx [])) (λv H2=>v=.non/\Q (.ref x) H2) E) :
  wpAny (model X.prog X.w) X.A (call (.ref C) us) (EP X pins σ Q) X.xe s:=by
 have hq:=h (s.heap.objs.size + 1) s.heap.objs.size (I.hok.fresh (yu _)) (I.hok.fresh (zD _)) (zU (xH _))
 have I2:=Inv.made (C:=C) I
 have r2:Vals (V.ref (s.heap.objs.size + 1)::(vs++dvs)) (Value.ref (s.heap.objs.size + 1)::(us++ds)):=.cons rfl (r.append hd)
 have hl:(Value.ref (s.heap.objs.size + 1)::us++ds).length=ps.length:=by
  have e:=r2.length
  rw [F.len _ _ _ _ hq] at e
  exact e.symm
 refine wpAny_call (make_map (f:=f) I.kIn M.makes M.init (beq_iff_eq.mp M.fn) (codeAny_mono (F.run _ X.stack _ _ ⟨Value.ref (s.heap.objs.size + 1)::us,[]⟩ (Value.ref (s.heap.objs.size + 1)::(us++ds)) _ _ E (hr.make C us [])
  (I2.env0.make C us []) (hb _ (Value.ref (s.heap.objs.size + 1)::us) I2.kIn hl) r2 hq) λr s' hq'=>?_))
 cases r with
 | error e=>exact hx pins σ _ _ e s' I2 hq'
 | ok fl=>
  cases fl with
  | ret u=>
   obtain ⟨v,H',I3,rv,ev,q3⟩:=I2.after hq'
   subst ev
   exact ⟨rv,⟨V.ref (s.heap.objs.size + 1),H',I3,rfl,q3⟩⟩
  | next=>exact False.elim hq'
  | brk=>exact False.elim hq'
  | cont=>exact False.elim hq'
theorem pe_make (M:Mk X.K C f) (F:FnOk X.prog X.w X.K X.mg X.base CX k f fd ps sp) (hr:Room (k + 1) X.A) (hg:Gl X x) (hm:X.mg x=some (.ref C)) (hb:Binds X.K fd ps ds) (hd:Vals dvs ds) (hx:Passes CX X E)
  (ha:PA X (e::es) t) (hdb:(x == ("__debug__" : Str))=false:=by decide) (he:starEach (e::es) X.env=(false,eval e X.env)::starEach es X.env:=by rfl) (hpl:(backTo pos (starEach es X.env)).any (·.1)=false:=by rfl) :
  PE X (.Call (.Name x p) (e::es) [] pos) (tMake C sp dvs E t):=by
 intro pins s σ H Q I h
 refine wpAny_Call_Name_kw (ld_glob I hg hm ?_ hdb)
 refine PySem.W.callWith_K (h₀:=X.base) I.ok.mod.kin M.kp (thn (ha pos pins s σ H _ I h) λus s1 ⟨vs,H1,I1,r,q⟩=>⟨I1.kIn,?_⟩) he hpl
 exact run_make M F hr hb hd hx I1 r q
end
section
variable {X:Cx}{CX:CXT}{k:Nat}{f C:Addr}{fd:FuncData}{ps ks:List Str}{sp:Sp}{E:XK}{x m:Str}{p pos apos kpos:Pos}{e o:Expr}{es:List Expr}{kws:List Keyword}{te ta:TE}{t tk:TA}{nm:Option Str}
variable {g:List Value->List Value->List Value}{gV:List V->List V->List V}
end
structure FnScope (N P:List Str) (sc:Scope):Prop where
 kind:sc.kind=.function
 co:sc.isCoroutine=false
 gen:sc.isGenerator=false
 nd:N.Nodup
 pre:N.take P.length=P
 par:∀ x∈P,sc.names.lookup x=some .local\/sc.names.lookup x=some .cell
 nofree:∀ y∈sc.names,y.2≠.free
theorem bindL_out {kindOf:Str->Option NameKind}{x:Str}:∀ {binds:List (Str×Value)}{m:Str->Option Value},(∀ v,(x,v) ∉ binds)->bindL kindOf binds m x=m x
 | [],_,_=>rfl
 | (n,v)::r,m,h=>by
  unfold bindL
  rw [bindL_out λw hw=>h w (zf _ hw)]
  split
  ·have:x≠n:=by rintro rfl;exact h v z4
   simp [this]
  ·rfl
theorem bindC_out {kindOf:Str->Option NameKind}{x:Str}:∀ {binds:List (Str×Value)}{m:Str->Option Value},(∀ v,(x,v) ∉ binds)->bindC kindOf binds m x=m x
 | [],_,_=>rfl
 | (n,v)::r,m,h=>by
  unfold bindC
  rw [bindC_out λw hw=>h w (zf _ hw)]
  split
  ·rfl
  ·have:x≠n:=by rintro rfl;exact h v z4
   simp [this]
theorem bindL_get {kindOf:Str->Option NameKind}{x:Str}{v:Value}:∀ {P:List Str}{vs:List Value}{i:Nat}{m:Str->Option Value},P.Nodup->P[i]?=some x->vs[i]?=some v->kindOf x=some .local ->
  bindL kindOf (P.zip vs) m x=some v
 | [],_,_,_,_,h,_,_=>by simp at h
 | _::_,[],_,_,_,_,h,_=>by simp at h
 | p::P,w::vs,0,m,nd,h1,h2,hk=>by
  simp at h1 h2;subst h1;subst h2
  show bindL kindOf ((p,w)::P.zip vs) m p=_
  unfold bindL
  rw [bindL_out λv hv=>(ze.mp nd).1 (List.of_mem_zip hv).1,if_pos hk]
  simp
 | p::P,w::vs,i + 1,m,nd,h1,h2,hk=>by
  show bindL kindOf ((p,w)::P.zip vs) m x=_
  unfold bindL
  exact bindL_get (i:=i) (ze.mp nd).2 (by simpa using h1) (by simpa using h2) hk
theorem bindC_get {kindOf:Str->Option NameKind}{x:Str}{v:Value}:∀ {P:List Str}{vs:List Value}{i:Nat}{m:Str->Option Value},P.Nodup->P[i]?=some x->vs[i]?=some v->kindOf x≠some .local ->
  bindC kindOf (P.zip vs) m x=some v
 | [],_,_,_,_,h,_,_=>by simp at h
 | _::_,[],_,_,_,_,h,_=>by simp at h
 | p::P,w::vs,0,m,nd,h1,h2,hk=>by
  simp at h1 h2;subst h1;subst h2
  show bindC kindOf ((p,w)::P.zip vs) m p=_
  unfold bindC
  rw [bindC_out λv hv=>(ze.mp nd).1 (List.of_mem_zip hv).1,if_neg hk]
  simp
 | p::P,w::vs,i + 1,m,nd,h1,h2,hk=>by
  show bindC kindOf ((p,w)::P.zip vs) m x=_
  unfold bindC
  exact bindC_get (i:=i) (ze.mp nd).2 (by simpa using h1) (by simpa using h2) hk
def start (N:List Str) (vs:List V):St:=vs.map some++List.replicate (N.length - vs.length) none
def cxOf (CX:CXT) (P:Program) (w:World) (K:PySem.W.Frag) (mg:Str->Option Value) (base:Heap) (N:List Str) (qual:Str) (scope:Scope) (f:Addr) (cd:Value) (A:Around) (outer:List Env) (s:Shared) (H:Hp) (E:XK):Cx where
 prog:=P
 w:=w
 K:=K
 mg:=mg
 base:=base
 A:=A.deeper (envOfC qual scope s.heap.objs.size f cd)
 N:=N
 s₀:=s
 H₀:=H
 env:=envOfC qual scope s.heap.objs.size f cd
 outer:=outer
 stack:=envOfC qual scope s.heap.objs.size f cd::outer
 ex:=[]
 calm:=true
 fn:=λ_=>true
 pn:=[]
 xe:=λe s'=>wpAny (model P w) (A.deeper (envOfC qual scope s.heap.objs.size f cd)) (leaving (envOfC qual scope s.heap.objs.size f cd) e) (λ_ s''=>CX outer H s E e s'') (λe' s''=>CX outer H s E e' s'') s'
theorem cell_has {sc:Scope}{n:Nat}{x:Str} (h:sc.names.lookup x=some .cell):∃ c,(cellsFrom n sc.names []).lookup x=some c:=by
 have q:=PySem.W.cellsFrom_some sc.names n [] (.inl h)
 exact Option.isSome_iff_exists.mp q
theorem inv_start {CX:CXT}{P:Program}{w:World}{K:PySem.W.Frag}{mg:Str->Option Value}{base:Heap}{N ps:List Str}{qual:Str}{scope:Scope}{f:Addr}{cd:Value}{A:Around}{outer:List Env} {s s1:Shared}{H:Hp}{E:XK}{us:List Value}{vs:List V}
  (S:FnScope N ps scope) (hd:A.handled=none) (e0:Env0 P w K mg base A outer s H) (hl:vs.length=ps.length) (r:Vals vs us)
  (x:InCallC s s.heap.objs.size (bindL (envOfC qual scope s.heap.objs.size f cd).kindOf (ps.zip us) λ_=>none) (cellsFrom (s.heap.objs.size + 1) scope.names []) (bindC (envOfC qual scope s.heap.objs.size f cd).kindOf (ps.zip us) λ_=>none) s1) :
  Inv (cxOf CX P w K mg base N qual scope f cd A outer s H E) [] (start N vs) H s1:=by
 have hpl:ps.length<=N.length:=by have:=congrArg List.length S.pre;rw [zX] at this;omega
 obtain ⟨h1,tk,rfl,hk⟩:=x.done
 have noA:∀ b:Addr,b ∉ (cxOf CX P w K mg base N qual scope f cd A outer s H E).ex:=λb z=>absurd (show b∈([]:List Addr) from z) (by simp)
 refine ⟨⟨e0.mod,S.kind,rfl,rfl,zD _,λy z c h1 h2=>?_,λy hy=>?_,λy c _ h=>?_,λ_=>hd,Around.frames_deeper e0.frames,.inr ⟨rfl,rfl⟩,λb z=>absurd z (noA b),e0.bs,e0.bsz,λb _ _=>noA b,λb z=>absurd z (noA b),e0.funs,e0.frf⟩,
  rfl,e0.bare,Un.kept hk,⟨_,x.toInCall.ns,λi y v h1 h2 h3=>?_⟩,λy c h=>⟨_,x.cell y c h⟩,e0.hok.fresh (zD _),λy c h=>?_,λp hp=>absurd (show p∈([]:List (Addr×Obj)) from hp) (by simp),e0.hok.kept hk,?_⟩
 ·exact name_of_addr x.apart (yJ h1) (yJ h2)
 ·have hy:scope.names.lookup y=some .cell\/scope.names.lookup y=some .free:=hy
  rcases hy with hy | hy
  ·exact cell_has hy
  ·exact absurd rfl (S.nofree _ (yJ hy))
 ·exact xF (x.above y c (yJ h))
 ·have hi:i < vs.length:=by
   unfold start at h2
   by_cases hi:i < vs.length
   ·exact hi
   ·rw [zY (by simpa using hi)] at h2
    rw [List.getElem?_replicate] at h2
    split at h2 <;> cases h2
  have ha:vs[i]?=some v:=by
   unfold start at h2
   rw [zV (by simpa using hi),zS] at h2
   cases e:vs[i]? with
   | none=>rw [e] at h2;cases h2
   | some a=>rw [e] at h2;cases h2;rfl
  obtain ⟨u,hu,rv⟩:=r.get ha
  have hp:ps[i]?=some y:=by
   rw [<-S.pre,List.getElem?_take_of_lt (by omega)];exact h1
  have ndP:ps.Nodup:=by rw [<-S.pre];exact S.nd.sublist (List.take_sublist _ _)
  refine ⟨u,rv,?_⟩
  rcases S.par y (zC hp) with k | k
  ·exact .inl ⟨k,bindL_get ndP hp hu k⟩
  ·obtain ⟨c,e⟩:=cell_has (n:=s.heap.objs.size + 1) k
   refine .inr ⟨.inl k,c,e,?_⟩
   have q:=x.cell y c e
   rw [bindC_get ndP hp hu (by show scope.names.lookup y≠_;rw [k];decide)] at q
   exact q
 ·exact e0.hok.fresh (xF (x.above y c (yJ h)))
 ·unfold start
  show _=N.length
  rw [zE,zA,List.length_replicate]
  omega
theorem fn_of {CX:CXT}{P:Program}{w:World}{K:PySem.W.Frag}{mg:Str->Option Value}{base:Heap}{k:Nat}{f:Addr}{name qual:Str}{params:Arguments}{body:List Stmt}{scope:Scope}{dV kV doc pm cdv ct oc:Value}{an od:Option Addr}
  {osl:Array (Option Value)}{N ps:List Str}{sp:Sp} (lk:K.lookup f=some ⟨oc,od,.func (xP name qual params body scope dV kV doc pm an cdv ct),osl⟩) (hcd:PySem.W.codeIn K cdv qual=true) (S:FnScope N ps scope)
  (len:∀ vs H Q E,sp vs H Q E->vs.length=ps.length)
  (hbody:∀ (A:Around) (outer:List Env) (s:Shared) (H:Hp) (vs:List V) (Q:VK) (E:XK),Room k (A.deeper (envOfC qual scope s.heap.objs.size f cdv))->sp vs H Q E ->
   ∃ t,PSs (cxOf CX P w K mg base N qual scope f cdv A outer s H E) body t/\t { nx:=λ_ H'=>Q .non H',rt:=Q } (start N vs) H) :
  FnOk P w K mg base CX (k + 1) f (xP name qual params body scope dV kV doc pm an cdv ct) ps sp:=by
 refine ⟨len,λA outer s H args us vs Q E hr e0 hb r hsp=>?_⟩
 have hl:=len _ _ _ _ hsp
 have KX:K.In s.heap:=e0.mod.kin.keeps λb o e=>(e0.bs b o e).1
 have lim:s.heap.NoLimit:=e0.mod.nolimit.keeps λb o e=>(e0.bs b o e).1
 have hkind:∀ y∈ps.zip us,scope.names.lookup y.1=some .local\/(scope.names.lookup y.1=some .cell/\((cellsFrom (s.heap.objs.size + 1) scope.names []).lookup y.1).isSome=true):=λ⟨n,v⟩ hy=>by
  rcases S.par n (List.of_mem_zip hy).1 with q | q
  ·exact .inl q
  ·exact .inr ⟨q,PySem.W.cellsFrom_some _ _ _ (.inl q)⟩
 refine codeAny_call_function hr.depth (KX _ _ lk) rfl S.co S.gen rfl (PySem.W.codeRec_of KX hcd) (hb _ _ _ _ ?_)
 refine wpAny_newFunctionEnv_cells S.kind hkind λenv he s1 x=>?_
 subst he
 refine ⟨lim.keeps x.toInCall.keep,codeAny_func ?_⟩
 obtain ⟨t,ht,hq⟩:=hbody A outer s H vs Q E (hr.deeper _) hsp
 have I:Inv (cxOf CX P w K mg base N qual scope f cdv A outer s H E) [] (start N vs) H s1:=inv_start S hr.hd e0 hl r x
 refine wpAny_mono (ht [] s1 (start N vs) H _ I hq) (λfl s' hs=>?_) λe s' hs=>hs
 have fin:∀ {σ':St}{H':Hp}{v:V}{u:Value},Inv (cxOf CX P w K mg base N qual scope f cdv A outer s H E) [] σ' H' s'->RelV v u->Q v H'->CE outer P w H s Q u s':=
  λ{σ' H' v u} J rv q=>⟨v,H',J.os,J.bare,J.base,J.hok,rv,q⟩
 cases fl with
 | ret u=>
  obtain ⟨v,σ',H',J,rv,q⟩:=hs
  exact fin J rv q
 | next=>
  obtain ⟨σ',H',J,q⟩:=hs
  exact fin (v:=V.non) (u:=Value.none) J rfl q
 | brk=>
  obtain ⟨_,_,_,q⟩:=hs
  exact False.elim q
 | cont=>
  obtain ⟨_,_,_,q⟩:=hs
  exact False.elim q
end L2
namespace L2
open PySem PySem.Spec PyProof.Rows
section
variable {X:Cx}{x:Str}{p pos:Pos}{e:Expr}{es:List Expr}{t:TA}{id T:String}{r:List V->Hp->VK->Prop}
def tCB (r:List V->Hp->VK->Prop) (t:TA):TE:=fun σ H Q=>t σ H λvs H1=>r vs H1 Q
theorem xp (hc:CallR X (.builtin id) r) (hg:Gl X x) (hm:X.mg x=none) (hv:bootBuiltins x=some (.builtin id)) (ha:PA X (e::es) t) (hn:x ≠ "__name__" := by decide) (hdb:(x == ("__debug__" : Str))=false:=by decide)
  (he:starEach (e::es) X.env=(false,eval e X.env)::starEach es X.env:=by rfl) (hpl:(backTo pos (starEach es X.env)).any (·.1)=false:=by rfl):PE X (.Call (.Name x p) (e::es) [] pos) (tCB r t):=by
 intro pins s σ H Q I h
 refine wpAny_Call_Name_kw (ld_blt I hg hm hv ?_ hn hdb)
 exact PyProof.Rows.callWith_builtin1 (thn (ha pos pins s σ H _ I h) λus s1 ⟨vs,H1,I1,r1,q1⟩=>hc pins s1 σ H1 vs us Q I1 r1 q1) he hpl
theorem pe_callTy (hc:CallR X (.type T) r) (hg:Gl X x) (hm:X.mg x=none) (hv:bootBuiltins x=some (.type T)) (ha:PA X (e::es) t) (hn:x ≠ "__name__" := by decide) (hdb:(x == ("__debug__" : Str))=false:=by decide)
  (he:starEach (e::es) X.env=(false,eval e X.env)::starEach es X.env:=by rfl) (hpl:(backTo pos (starEach es X.env)).any (·.1)=false:=by rfl):PE X (.Call (.Name x p) (e::es) [] pos) (tCB r t):=by
 intro pins s σ H Q I h
 refine wpAny_Call_Name_kw (ld_blt I hg hm hv ?_ hn hdb)
 exact yP (thn (ha pos pins s σ H _ I h) λus s1 ⟨vs,H1,I1,r1,q1⟩=>hc pins s1 σ H1 vs us Q I1 r1 q1) he hpl
theorem pe_callTy0 (hc:CallR X (.type T) r) (hg:Gl X x) (hm:X.mg x=none) (hv:bootBuiltins x=some (.type T)) (hn:x ≠ "__name__" := by decide) (hdb:(x == ("__debug__" : Str))=false:=by decide) :
  PE X (.Call (.Name x p) [] [] pos) (tCB r tNil):=by
 intro pins s σ H Q I h
 refine wpAny_Call_Name_kw (ld_blt I hg hm hv ?_ hn hdb)
 exact PyProof.Rows.callWith_type0 (hc pins s σ H [] [] Q I .nil h)
end
end L2
namespace L2
open PySem PySem.Spec PyProof.Rows
section
variable {κ:Type} [DecidableEq κ]
def valV (kvs:List (κ×V)) (k:κ):Option V:=(kvs.find? λkv=>decide (kv.1=k)).map (·.2)
def putK (kvs:List (κ×V)) (k:κ) (v:V):List (κ×V):=
 if (kvs.any λkv=>decide (kv.1=k))=true then kvs.map (λkv=>if kv.1=k then (kv.1,v) else kv) else kvs++[(k,v)]
theorem wX {p:κ×V}{r:List (κ×V)}{k:κ} (e:p.1=k):valV (p::r) k=some p.2:=by simp [valV,yx,e]
theorem wW {p:κ×V}{r:List (κ×V)}{k:κ} (e:¬ p.1=k):valV (p::r) k=valV r k:=by simp [valV,yx,e]
theorem valV_any (k:κ):∀ kvs:List (κ×V),(kvs.any λkv=>decide (kv.1=k))=(valV kvs k).isSome
 | []=>rfl
 | p::r=>by
  rw [xB]
  by_cases e:p.1=k
  ·simp only [wX e,decide_eq_true e,Bool.true_or,Option.isSome_some]
  ·rw [wW e,decide_eq_false e,Bool.false_or];exact valV_any k r
theorem valV_map (k j:κ) (y:V):∀ kvs:List (κ×V),valV (kvs.map λkv=>if kv.1=k then (kv.1,y) else kv) j=(valV kvs j).map λx=>if j=k then y else x
 | []=>rfl
 | p::r=>by
  have ih:=valV_map k j y r
  rw [zm]
  by_cases h:p.1=k
  ·rw [if_pos h]
   by_cases e:p.1=j
   ·rw [wX (p:=(p.1,y)) e,wX e,xN,if_pos (e.symm.trans h)]
   ·rw [wW (p:=(p.1,y)) e,wW e,ih]
  ·rw [if_neg h]
   by_cases e:p.1=j
   ·rw [wX (p:=p) e,wX e,xN,if_neg (λz=>h (e.trans z))]
   ·rw [wW (p:=p) e,wW e,ih]
theorem valV_snoc (k j:κ) (y:V):∀ kvs:List (κ×V),valV kvs k=none->valV (kvs++[(k,y)]) j=if j=k then some y else valV kvs j
 | [],_=>by
  by_cases e:k=j
  ·rw [if_pos e.symm];exact wX (p:=(k,y)) e
  ·rw [if_neg (λz=>e z.symm)];exact wW (p:=(k,y)) e
 | p::r,hn=>by
  rw [yc]
  have hk:¬ p.1=k:=λz=>by rw [wX z] at hn;cases hn
  rw [wW hk] at hn
  have ih:=valV_snoc k j y r hn
  by_cases e:p.1=j
  ·rw [wX e,wX e,if_neg (λz=>hk (e.trans z))]
  ·rw [wW e,wW e,ih]
theorem valV_put (kvs:List (κ×V)) (k j:κ) (y:V):valV (putK kvs k y) j=if j=k then some y else valV kvs j:=by
 unfold putK
 by_cases a:(kvs.any λkv=>decide (kv.1=k))=true
 ·rw [if_pos a,valV_map]
  rw [valV_any] at a
  by_cases e:j=k
  ·obtain ⟨x,hx⟩:=Option.isSome_iff_exists.mp a
   rw [if_pos e,e,hx,xN,if_pos rfl]
  ·rw [if_neg e]
   cases valV kvs j with
   | none=>rfl
   | some x=>rw [xN,if_neg e]
 ·rw [if_neg a]
  refine valV_snoc k j y kvs ?_
  rw [valV_any] at a
  cases q:valV kvs k with
  | none=>rfl
  | some x=>rw [q] at a;exact (a rfl).elim
theorem length_putK (kvs:List (κ×V)) (k:κ) (v:V):(putK kvs k v).length<=kvs.length + 1:=by
 unfold putK
 split
 ·rw [zA];omega
 ·rw [zE,zW,yH];omega
theorem RelO.isSome_eq {o:Option V}{u:Option Value} (r:RelO o u):o.isSome=u.isSome:=by
 cases o with
 | none=>cases u with
  | none=>rfl
  | some _=>exact (show False from r).elim
 | some _=>cases u with
  | none=>exact (show False from r).elim
  | some _=>rfl
theorem KV.val {kvs:List (κ×V)}{vs:List (κ×Value)} (r:KV kvs vs) (k:κ):RelO (valV kvs k) (valueAt vs k):=by
 unfold KV at r
 induction r with
 | nil=>exact True.intro
 | @cons p q ps qs h t ih=>
  obtain ⟨h1,h2⟩:=h
  by_cases e:p.1=k
  ·have e':q.1=k:=h1.symm.trans e
   have b:valueAt (q::qs) k=some q.2:=by simp [valueAt,yx,e']
   rw [wX e,b];exact h2
  ·have e':¬ q.1=k:=λz=>e (h1.trans z)
   have b:valueAt (q::qs) k=valueAt qs k:=by simp [valueAt,yx,e']
   rw [wW e,b];exact ih
theorem KV.any {kvs:List (κ×V)}{vs:List (κ×Value)} (r:KV kvs vs) (k:κ):(kvs.any λkv=>decide (kv.1=k))=vs.any λkv=>decide (kv.1=k):=by
 unfold KV at r
 induction r with
 | nil=>rfl
 | cons h t ih=>rw [xB,xB,ih,h.1]
theorem KV.repl {kvs:List (κ×V)}{vs:List (κ×Value)} (r:KV kvs vs) (k:κ) {y:V}{u:Value} (ry:RelV y u) :
  KV (kvs.map λkv=>if kv.1=k then (kv.1,y) else kv) (vs.map λkv=>if kv.1=k then (kv.1,u) else kv):=by
 unfold KV at r ⊢
 induction r with
 | nil=>exact .nil
 | @cons p q ps qs h t ih=>
  rw [zm,zm]
  refine .cons ?_ ih
  obtain ⟨h1,h2⟩:=h
  by_cases e:p.1=k
  ·rw [if_pos e,if_pos (h1.symm.trans e)];exact ⟨h1,ry⟩
  ·rw [if_neg e,if_neg (λz=>e (h1.trans z))];exact ⟨h1,h2⟩
theorem KV.put {kvs:List (κ×V)}{vs:List (κ×Value)} (r:KV kvs vs) (k:κ) {y:V}{u:Value} (ry:RelV y u):KV (putK kvs k y) (stored vs k u):=by
 unfold putK stored
 rw [r.any k]
 by_cases e:(vs.any λkv=>decide (kv.1=k))=true
 ·rw [if_pos e,if_pos e];exact r.repl k ry
 ·rw [if_neg e,if_neg e];exact Paired.snoc r ⟨rfl,ry⟩
theorem KV.length {kvs:List (κ×V)}{vs:List (κ×Value)} (r:KV kvs vs):kvs.length=vs.length:=Paired.length r
end
theorem kV_is {P:Program}{w:World}{k:Key}{u:Value} (r:RelV (kV k) u):(mixKind P w).is k u=true:=by
 cases k with
 | inl i=>obtain ⟨t,e⟩:=(show ∃ t,u=Value.int i t from r);subst e;exact mixKind_int P w i t
 | inr x=>obtain ⟨t,e⟩:=(show ∃ t,u=Value.str x t from r);subst e;exact mixKind_str P w x t
theorem items_are {P:Program}{w:World}:∀ {ks:List Key}{us:List Value},Vals (ks.map kV) us->ItemsAre (mixKind P w) ks us
 | [],_,r=>by rw [yb] at r;cases r;exact .nil
 | k::ks,_,r=>by
  rw [zm] at r
  cases r with
  | cons h t=>exact .cons (kV_is h) (items_are t)
abbrev KT (H:Hp):List (List Key×V)->List (List Key×Addr×Value)->Prop:=Paired λp q=>p.1=q.1/\H q.2.1=some (.tup (p.1.map kV))/\RelV p.2 q.2.2
theorem KT.val {H:Hp}{kvs:List (List Key×V)}{xs:List (List Key×Addr×Value)} (r:KT H kvs xs) (k:List Key):RelO (valV kvs k) ((atKey xs k).map (·.2)):=by
 induction r with
 | nil=>exact True.intro
 | @cons p q ps qs h t ih=>
  obtain ⟨h1,_,h2⟩:=h
  by_cases e:p.1=k
  ·have e':q.1=k:=h1.symm.trans e
   have b:atKey (q::qs) k=some q.2:=by simp [atKey,yx,e']
   rw [wX e,b];exact h2
  ·have e':¬ q.1=k:=λz=>e (h1.trans z)
   have b:atKey (q::qs) k=atKey qs k:=by simp [atKey,yx,e']
   rw [wW e,b];exact ih
theorem KT.repl {H:Hp}{kvs:List (List Key×V)}{xs:List (List Key×Addr×Value)} (r:KT H kvs xs) (k:List Key) {y:V}{u:Value} (ry:RelV y u) :
  KT H (kvs.map λkv=>if kv.1=k then (kv.1,y) else kv) (xs.map (putAt k u)):=by
 induction r with
 | nil=>exact .nil
 | @cons p q ps qs h t ih=>
  rw [zm,zm]
  refine .cons ?_ ih
  obtain ⟨h1,h2,h3⟩:=h
  unfold putAt
  by_cases e:p.1=k
  ·rw [if_pos e,if_pos (h1.symm.trans e)];exact ⟨h1,h2,ry⟩
  ·rw [if_neg e,if_neg (λz=>e (h1.trans z))];exact ⟨h1,h2,h3⟩
theorem KT.put {H:Hp}{kvs:List (List Key×V)}{xs:List (List Key×Addr×Value)} (r:KT H kvs xs) (k:List Key) {b:Addr}{y:V}{u:Value} (hb:H b=some (.tup (k.map kV))) (ry:RelV y u) :
  KT H (putK kvs k y) (storedH xs k b u):=by
 have e:(kvs.any λkv=>decide (kv.1=k))=(atKey xs k).isSome:=by
  rw [valV_any,(r.val k).isSome_eq,Option.isSome_map]
 unfold putK storedH
 rw [e]
 by_cases q:(atKey xs k).isSome=true
 ·rw [if_pos q,if_pos q];exact r.repl k ry
 ·rw [if_neg q,if_neg q];exact Paired.snoc r ⟨rfl,hb,ry⟩
theorem KT.keeps {H H':Hp}{kvs:List (List Key×V)}{xs:List (List Key×Addr×Value)} (r:KT H kvs xs) (ht:∀ b ys,H b=some (.tup ys)->H' b=some (.tup ys)):KT H' kvs xs:=
 Paired.mapP r λ_ _ z=>⟨z.1,ht _ _ z.2.1,z.2.2⟩
section
variable {P:Program}{w:World}{H:Hp}{h:Heap}{a:Addr}
theorem rd_of {u:HO} (ok:HOk P w H h) (e:Rd H a u):ObjOk P w H h a u:=e.ok ok
theorem dk_rd {kvs:List (Key×V)} (ok:HOk P w H h) (e:Rd H a (.dK kvs)):kvs.length<=sizeLine/\(a == sysModules)=false/\∃ vs,KV kvs vs/\h.DictOf (mixKind P w) a vs:=
 show ObjOk P w H h a (.dK kvs) from rd_of ok e
theorem dk_of {kvs:List (Key×V)} (ok:HOk P w H h) (e:H a=some (.dK kvs)):kvs.length<=sizeLine/\(a == sysModules)=false/\∃ vs,KV kvs vs/\h.DictOf (mixKind P w) a vs:=dk_rd ok (.inl e)
theorem key_of {ks:List Key} (ok:HOk P w H h) (e:H a=some (.tup (ks.map kV))):(tupleKind (mixKind P w)).is h ks a:=by
 obtain ⟨_,its,r,o,h1,h2,n,h3⟩:=(show ObjOk P w H h a (.tup (ks.map kV)) from ok a _ e)
 exact ⟨o,its.toArray,n,h1,h2,h3,by simpa using items_are r⟩
theorem dt_rd {kvs:List (List Key×V)} (ok:HOk P w H h) (e:Rd H a (.dT kvs)):kvs.length<=sizeLine/\(a == sysModules)=false /\
  ∃ xs,KT H kvs xs/\h.DictOfH (tupleKind (mixKind P w)) a xs:=by
 obtain ⟨z,y,xs,r,o,es,ep,h1,h2,h3,h4,h5⟩:=(show ObjOk P w H h a (.dT kvs) from rd_of ok e)
 refine ⟨z,y,xs,r,o,es,ep,h1,h2,h3,h4,λx hx=>?_,h5⟩
 have all:∀ {l:List (List Key×V)}{m:List (List Key×Addr×Value)},KT H l m->∀ x∈m,(tupleKind (mixKind P w)).is h x.1 x.2.1:=by
  intro l m q
  induction q with
  | nil=>intro x hx;exact nomatch hx
  | @cons p q ps qs hq t ih=>
   intro x hx
   rcases zH.mp hx with e | hx
   ·subst e
    exact key_of ok (by rw [<-hq.1];exact hq.2.1)
   ·exact ih x hx
 exact all r x hx
theorem dt_of {kvs:List (List Key×V)} (ok:HOk P w H h) (e:H a=some (.dT kvs)):kvs.length<=sizeLine/\(a == sysModules)=false /\
  ∃ xs,KT H kvs xs/\h.DictOfH (tupleKind (mixKind P w)) a xs:=dt_rd ok (.inl e)
end
def DGet (H:Hp) (a:Addr) (y:V) (r:Option V):Prop:=
 (∃ kvs k,Rd H a (.dK kvs)/\y=kV k/\r=valV kvs k)\/∃ kvs k b,Rd H a (.dT kvs)/\y=.ref b/\H b=some (.tup (k.map kV))/\r=valV kvs k
def DPut (H:Hp) (a:Addr) (y v:V) (H':Hp):Prop:=
 (∃ kvs k,H a=some (.dK kvs)/\y=kV k/\kvs.length < sizeLine/\H'=upd H a (.dK (putK kvs k v))) \/
 ∃ kvs k b,H a=some (.dT kvs)/\y=.ref b/\H b=some (.tup (k.map kV))/\kvs.length < sizeLine/\H'=upd H a (.dT (putK kvs k v))
theorem DGet.k {H:Hp}{a:Addr}{kvs:List (Key×V)}{k:Key} (e:H a=some (.dK kvs)):DGet H a (kV k) (valV kvs k):=.inl ⟨kvs,k,.inl e,rfl,rfl⟩
theorem DPut.k {H:Hp}{a:Addr}{kvs:List (Key×V)}{k:Key}{v:V} (e:H a=some (.dK kvs)) (hl:kvs.length < sizeLine):DPut H a (kV k) v (upd H a (.dK (putK kvs k v))):=.inl ⟨kvs,k,e,rfl,hl,rfl⟩
section
variable {X:Cx}{pins:List (Addr×Obj)}{σ:St}{H:Hp}{s:Shared}{a:Addr}{y v:V}{u r:Value}{o:Option V}{A:Around}{E:Value->Shared->Prop}
theorem Inv.big (I:Inv X pins σ H s):sysModules < s.heap.objs.size:=by
 have h:mainGlobals < s.heap.objs.size:=(I.mod.glob.keeps I.bk).lt
 exact Nat.lt_trans (by decide) h
theorem d_getItem {Q:Value->Shared->Prop} (hu:A.units + 1 < cLine) (I:Inv X pins σ H s) (g:DGet H a y (some v)) (ry:RelV y u) (h:∀ w' s',Inv X pins σ H s'->RelV v w'->Q w' s') :
  wpAny (model X.prog X.w) A (getItem (.ref a) u) Q E s:=by
 rcases g with ⟨kvs,k,e,ey,l⟩ | ⟨kvs,k,b,e,ey,eb,l⟩
 ·subst ey
  obtain ⟨z,hd,vs,rel,dd⟩:=dk_rd I.hok e
  obtain ⟨w',hw,rw'⟩:=RelO.some_of (v:=v) (o:=valueAt vs k) (by rw [l];exact rel.val k)
  exact wpAny_getItem_of (kV_is ry) dd.mapOf hw (h w' _ (I.tok _) rw')
 ·subst ey
  cases (show u=Value.ref b from ry)
  obtain ⟨z,hd,xs,rel,dd⟩:=dt_rd I.hok e
  obtain ⟨w',hw,rw'⟩:=RelO.some_of (v:=v) (o:=(atKey xs k).map (·.2)) (by rw [l];exact rel.val k)
  obtain ⟨p,hp,hp2⟩:=Option.map_eq_some_iff.mp hw
  refine wpAny_getItem_heap (tupleKind_room_in1 hu) (key_of I.hok eb) dd hp ?_
  rw [hp2]
  exact h w' _ (I.tok _) rw'
theorem d_in {Q:Value->Shared->Prop} (hu:A.units + 1 < cLine) (I:Inv X pins σ H s) (g:DGet H a y o) (ry:RelV y u) (h:∀ s',Inv X pins σ H s'->Q (.bool o.isSome) s') :
  wpAny (model X.prog X.w) A (compareOp .In u (.ref a)) Q E s:=by
 rcases g with ⟨kvs,k,e,ey,l⟩ | ⟨kvs,k,b,e,ey,eb,l⟩
 ·subst ey
  obtain ⟨z,hd,vs,rel,dd⟩:=dk_rd I.hok e
  refine wpAny_in_of (kV_is ry) hd dd.mapOf ?_
  rw [<-(rel.val k).isSome_eq,<- l]
  exact h _ (I.tok _)
 ·subst ey
  cases (show u=Value.ref b from ry)
  obtain ⟨z,hd,xs,rel,dd⟩:=dt_rd I.hok e
  refine wpAny_in_heap (tupleKind_room_in1 hu) (key_of I.hok eb) hd dd ?_
  have q:=(rel.val k).isSome_eq
  rw [Option.isSome_map] at q
  rw [<-q,<- l]
  exact h _ (I.tok _)
theorem d_notIn {Q:Value->Shared->Prop} (hu:A.units + 1 < cLine) (I:Inv X pins σ H s) (g:DGet H a y o) (ry:RelV y u) (h:∀ s',Inv X pins σ H s'->Q (.bool (!o.isSome)) s') :
  wpAny (model X.prog X.w) A (compareOp .NotIn u (.ref a)) Q E s:=by
 rcases g with ⟨kvs,k,e,ey,l⟩ | ⟨kvs,k,b,e,ey,eb,l⟩
 ·subst ey
  obtain ⟨z,hd,vs,rel,dd⟩:=dk_rd I.hok e
  refine wpAny_notIn_of (kV_is ry) hd dd.mapOf ?_
  rw [<-(rel.val k).isSome_eq,<- l]
  exact h _ (I.tok _)
 ·subst ey
  cases (show u=Value.ref b from ry)
  obtain ⟨z,hd,xs,rel,dd⟩:=dt_rd I.hok e
  refine wpAny_notIn_heap (tupleKind_room_in1 hu) (key_of I.hok eb) hd dd ?_
  have q:=(rel.val k).isSome_eq
  rw [Option.isSome_map] at q
  rw [<-q,<- l]
  exact h _ (I.tok _)
theorem d_write {h':Heap}{t':Nat}{ob:HO} (I:Inv X pins σ H s) (mu:Mut (H a)) (hs:Heap.SameBut a s.heap h') (he:∃ q,h'.get? a=some q) (new:ObjOk X.prog X.w (upd H a ob) h' a ob) :
  Inv X pins σ (upd H a ob) { s with heap:=h',toks:=t' }:=
 I.write (x:=a) (e:=a) mu (.inl rfl) (λb q hb z=>(hs.2 b hb).trans z) he new
theorem dk_new {P:Program}{w:World}{H':Hp}{h':Heap}{kvs:List (Key×V)}{vs:List (Key×Value)} (z:kvs.length<=sizeLine) (hd:(a == sysModules)=false) (rel:KV kvs vs) (dd:h'.DictOf (mixKind P w) a vs) :
  ObjOk P w H' h' a (.dK kvs):=⟨z,hd,vs,rel,dd⟩
theorem d_setItem {H':Hp}{Q:Unit->Shared->Prop} (hu:A.units + 1 < cLine) (I:Inv X pins σ H s) (g:DPut H a y v H') (ry:RelV y u) (rv:RelV v r) (h:∀ s',Inv X pins σ H' s'->Q () s') :
  wpAny (model X.prog X.w) A (setItem (.ref a) u r) Q E s:=by
 rcases g with ⟨kvs,k,e,ey,l,eH⟩ | ⟨kvs,k,b,e,ey,eb,l,eH⟩
 ·subst ey eH
  obtain ⟨z,hd,vs,rel,dd⟩:=dk_of I.hok e
  have hz:vs.length<=sizeLine:=by rw [<-rel.length];exact z
  have hl:(putK kvs k v).length<=sizeLine:=by have:=length_putK kvs k v;omega
  refine wpAny_setItem_pairs (hsz:=hz) (kV_is ry) dd λh' dd' hs=>h _ ?_
  have he:∃ q,h'.get? a=some q:=let ⟨q,_,_,hq,_⟩:=dd';⟨q,hq⟩
  exact d_write I (by rw [e];exact True.intro) hs he (dk_new hl hd (rel.put k rv) dd')
 ·subst ey eH
  cases (show u=Value.ref b from ry)
  obtain ⟨z,hd,xs,rel,dd⟩:=dt_of I.hok e
  have hz:xs.length<=sizeLine:=by rw [<-Paired.length rel];exact z
  have hl:(putK kvs k v).length<=sizeLine:=by have:=length_putK kvs k v;omega
  refine wpAny_setItem_heap (hsz:=hz) (tupleKind_room_in1 hu) (key_of I.hok eb) dd λh' dd' hs=>h _ ?_
  obtain ⟨q,es,ep,hq,h2,h3,h4,_,h5⟩:=dd'
  refine d_write I (by rw [e];exact True.intro) hs ⟨q,hq⟩ ⟨hl,hd,_,(rel.put k eb rv).keeps λc ys ec=>?_,q,es,ep,hq,h2,h3,h4,h5⟩
  rw [xb (ne_of ec e (λz=>nomatch z))]
  exact ec
end
section
variable {X:Cx}{pins:List (Addr×Obj)}{σ:St}{H:Hp}{s:Shared}{a:Addr}{kvs:List (Key×V)}{k:Key}{u:Value}{A:Around}{E:Value->Shared->Prop}
end
def NoSl (i:Expr):Prop:=∀ ov iv,subscripted i false ov iv=operate [ov,iv] (getItem ov iv)
theorem subD_of {prog:Program}{w:World}{A:Around}{E:Value->Shared->Prop}{s:Shared}{env:Env}{value slice:Expr}{pos:Pos}{T id:String}{Q:Value->Shared->Prop}
  (hl:typeLookup (.type T) "__getitem__" = pure (some (.builtin id))) (hs:NoSl slice)
  (h:wpAny (model prog w) A (eval value env) (λo s₁=>wpAny (model prog w) A (eval slice env) (λi s₂=>s₂.TypeIs o T/\wpAny (model prog w) A (getItem o i) Q E s₂) E s₁) E s) :
  wpAny (model prog w) A (eval (.Subscript value slice pos) env) Q E s:=by
 refine Subscript_ (wpAny_mono h (λo s₁ h₁=>wpAny_mono h₁ (λi s₂ h₂=>?_) λ_ _ x=>x) λ_ _ x=>x)
 obtain ⟨hT,h₂⟩:=h₂
 unfold subscriptTail
 refine wpAny_bind ?_
 rw [getitemInPython_of_ne hT.not_modules]
 refine wpAny_bind (wpAny_specialOf hT hl ?_)
 have fin:wpAny (model prog w) A (subscripted slice false o i) (λr s₃=>wpAny (model prog w) A (letTemporaryGo value o r >>= λ_=>pure r) Q E s₃) E s₂:=by
  rw [hs o i]
  exact wpAny_operating (wpAny_mono h₂ (λr s₃ h₃=>wpAny_bind (wpAny_letTemporaryGo (wpAny_pure h₃))) λ_ _ x=>x)
 first
  | exact wpAny_pure (wpAny_bind fin)
  | exact wpAny_bind (wpAny_pure (wpAny_bind fin))
  | exact wpAny_bind fin
theorem dict_typeIs {X:Cx}{pins:List (Addr×Obj)}{σ:St}{H:Hp}{s:Shared}{a:Addr}{y:V}{o:Option V} (I:Inv X pins σ H s) (g:DGet H a y o):s.TypeIs (.ref a) "dict" := by
 rcases g with ⟨kvs,k,e,_,_⟩ | ⟨kvs,k,b,e,_,_,_⟩
 ·obtain ⟨_,_,vs,_,dd⟩:=dk_rd I.hok e
  exact dd.typeIs
 ·obtain ⟨_,_,xs,_,dd⟩:=dt_rd I.hok e
  exact dd.typeIs
def tDGet (td ty:TE):TE:=fun σ H Q=>td σ H λx H1=>ty σ H1 λy H2=>∃ a v,x=.ref a/\DGet H2 a y (some v)/\Q v H2
def sDPut (td ty tv:TE):TS:=λD σ H=>tv σ H λv H1=>td σ H1 λx H2=>ty σ H2 λy H3=>∃ a H4,x=.ref a/\DPut H3 a y v H4/\D.nx σ H4
section
variable {X:Cx}{o i e value:Expr}{pos pos' tpos:Pos}{td ty tv:TE}
theorem pe_dget (hu:X.A.units + 1 < cLine) (ho:PE X o td) (hi:PE X i ty) (hs:NoSl i):PE X (.Subscript o i pos) (tDGet td ty):=by
 intro pins s σ H Q I h
 refine subD_of PySem.F.slot_dict_getitem.lookup hs (thn (ho pins s σ H _ I h) λu s1 ⟨x,H1,I1,rx,q1⟩=>thn (hi pins s1 σ H1 _ I1 q1) λiv s2 ⟨y,H2,I2,ry,a,v,ex,g,q2⟩=>?_)
 subst ex
 obtain rfl:u=Value.ref a:=rx
 exact ⟨dict_typeIs I2 g,d_getItem hu I2 g ry λw' s3 I3 rw'=>⟨v,H2,I3,rw',q2⟩⟩
theorem ps_dput (hu:X.A.units + 1 < cLine) (ho:PE X o td) (hi:PE X i ty) (hv:PE X value tv) (hs:swapsWith value (some (.Subscript o i pos')) pos.line X.env=pure false) :
  PS X (.Assign [.Subscript o i pos'] value pos) (sDPut td ty tv):=by
 intro pins s σ H D I h
 refine wpAny_Assign_Subscript (thn (hv pins s σ H _ I h) λr s1 ⟨v,H1,I1,rv,q1⟩=>thn (ho pins s1 σ H1 _ I1 q1) λu s2 ⟨x,H2,I2,rx,q2⟩=>thn (hi pins s2 σ H2 _ I2 q2) λiv s3 ⟨y,H3,I3,ry,a,H4,ex,g,q3⟩=>?_) hs
 subst ex
 obtain rfl:u=Value.ref a:=rx
 exact d_setItem hu I3 g ry rv λs4 I4=>⟨σ,H4,I4,q3⟩
end
theorem dk_empty {P:Program}{w:World}{H:Hp} (h:Heap) (hb:sysModules < h.objs.size):ObjOk P w H (h.push { cls:=.type "dict", data:=.dict #[] }) h.objs.size (.dK []):=
 ⟨zc _,beq_eq_false_iff_ne.mpr (Ne.symm (zU hb)),[],.nil,Heap.DictOf.new h⟩
def tDNewK:TE:=λ_ H Q=>∀ p,H p=none->Q (.ref p) (upd H p (.dK []))
section
variable {X:Cx}{pos:Pos}
theorem pe_dnewK:PE X (.Dict [] [] pos) tDNewK:=λpins s σ H Q I h=>
 wpAny_Dict_empty ⟨.ref s.heap.objs.size,_,I.laid (a:=s.heap.objs.size) (o:=.dK []) (t':=s.toks) (λ_ _ q=>Heap.get?_push_of_some _ q) (zD _) (dk_empty s.heap I.big),rfl,h _ (I.hok.fresh (zD _))⟩
end
def tPairs:List (TE×TE)->St->Hp->(List (V×V)->Hp->Prop)->Prop
 | [],_,H,Q=>Q [] H
 | (tk,tv)::r,σ,H,Q=>tk σ H λx H1=>tv σ H1 λy H2=>tPairs r σ H2 λps H3=>Q ((x,y)::ps) H3
abbrev VV:List (V×V)->List (Value×Value)->Prop:=Paired λp q=>RelV p.1 q.1/\RelV p.2 q.2
def PPs (X:Cx) (pos:Pos) (keys:List (Option Expr)) (values:List Expr) (trs:List (TE×TE)):Prop:=
 ∀ (pins:List (Addr×Obj)) (s:Shared) (σ:St) (H:Hp) (Q:List (V×V)->Hp->Prop),Inv X pins σ H s->tPairs trs σ H Q ->
  wpAny (model X.prog X.w) X.A (evalPairs (pairTrees keys values X.env pos)) (λvs s'=>∃ ps H',Inv X pins σ H' s'/\VV ps vs/\Q ps H') X.xe s
theorem pps_nil {X:Cx}{pos:Pos}:PPs X pos [] [] []:=λpins s σ H Q I h=>pairTrees_nil_walk ⟨[],H,I,.nil,h⟩
theorem pps_cons {X:Cx}{pos:Pos}{k v:Expr}{ks:List (Option Expr)}{vs:List Expr}{tk tv:TE}{trs:List (TE×TE)} (hk:PE X k tk) (hv:PE X v tv) (hr:PPs X pos ks vs trs) :
  PPs X pos (some k::ks) (v::vs) ((tk,tv)::trs):=λpins s σ H Q I h=>
 pairTrees_cons_walk (thn (hk pins s σ H _ I h) λu s1 ⟨x,H1,I1,rx,q1⟩=>thn (hv pins s1 σ H1 _ I1 q1) λw2 s2 ⟨y,H2,I2,ry,q2⟩=>
  thn (hr pins s2 σ H2 _ I2 q2) λws s3 ⟨ps,H3,I3,rel,q3⟩=>⟨(x,y)::ps,H3,I3,.cons ⟨rx,ry⟩ rel,q3⟩)
def mergeK (kvs more:List (Key×V)):List (Key×V):=more.foldl (λacc kv=>putK acc kv.1 kv.2) kvs
theorem KV.merge:∀ {more:List (Key×V)}{rs:List (Key×Value)}{kvs:List (Key×V)}{vs:List (Key×Value)},KV more rs->KV kvs vs->KV (mergeK kvs more) (merged vs rs):=by
 intro more rs kvs vs r
 unfold KV at r
 induction r generalizing kvs vs with
 | nil=>intro q;exact q
 | @cons p q ps qs h t ih=>
  intro r0
  have e:KV (putK kvs p.1 p.2) (stored vs q.1 q.2):=by
   have:=r0.put p.1 h.2
   rw [<-h.1];exact this
  exact ih e
theorem length_mergeK:∀ (more kvs:List (Key×V)),(mergeK kvs more).length<=kvs.length + more.length
 | [],kvs=>by show kvs.length<=kvs.length + 0;omega
 | p::r,kvs=>by
  have h1:=length_mergeK r (putK kvs p.1 p.2)
  have h2:=length_putK kvs p.1 p.2
  show (mergeK (putK kvs p.1 p.2) r).length<=_
  rw [zW];omega
theorem carries_of {P:Program}{w:World}:∀ {kvs:List (Key×V)}{ws:List (Value×Value)},VV (kvs.map λkv=>(kV kv.1,kv.2)) ws->∃ rs,Carries (mixKind P w) ws rs/\KV kvs rs
 | [],_,r=>by rw [yb] at r;cases r;exact ⟨[],True.intro,.nil⟩
 | p::kvs,_,r=>by
  rw [zm] at r
  cases r with
  | @cons a b as bs h t=>
   obtain ⟨rs,c,q⟩:=carries_of (P:=P) (w:=w) t
   obtain ⟨b1,b2⟩:=b
   exact ⟨(p.1,b2)::rs,⟨kV_is h.1,rfl,c⟩,.cons ⟨rfl,h.2⟩ q⟩
def tDisp (trs:List (TE×TE)):TE:=fun σ H Q=>∀ p,H p=none->tPairs trs σ (upd H p (.dK [])) λps H2=>H2 p=some (.dK [])/\∃ kvs:List (Key×V),ps=kvs.map (λkv=>(kV kv.1,kv.2))/\kvs.length<=15/\Q (.ref p) (upd H2 p (.dK (mergeK [] kvs)))
theorem pe_disp {X:Cx}{pos:Pos}{keys:List (Option Expr)}{values:List Expr}{trs:List (TE×TE)} (h:PPs X pos keys values trs) (hall:keys.all (·.isSome)=true) (hl:keys.length=values.length) (h0:keys≠[])
  (h15:keys.length<=15):PE X (.Dict keys values pos) (tDisp trs):=by
 intro pins s σ H Q I q
 have hn:=I.hok.fresh (zD s.heap.objs.size)
 have I1:=I.laid (a:=s.heap.objs.size) (o:=.dK []) (h':=s.heap.push { cls:=.type "dict", data:=.dict #[] }) (t':=s.toks) (λ_ _ q=>Heap.get?_push_of_some _ q) (zD _) (dk_empty s.heap I.big)
 refine wpAny_Dict_walk (knd:=mixKind X.prog X.w) hall hl h0 h15 (thn (h pins _ σ _ _ I1 (q _ hn)) λws s2 ⟨ps,H2,I2,rel,e,kvs,ep,lk,q2⟩=>?_)
 subst ep
 obtain ⟨rs,c,rk⟩:=carries_of (P:=X.prog) (w:=X.w) rel
 obtain ⟨z,hd,vs0,r0,dd⟩:=dk_of I2.hok e
 cases r0
 refine ⟨rs,c,dd,λh' dd' hs=>⟨.ref s.heap.objs.size,_,?_,rfl,q2⟩⟩
 have hz:(mergeK [] kvs).length<=sizeLine:=by
  have h1:=length_mergeK kvs []
  rw [yH] at h1
  rw [sizeLine_eq];omega
 have he:∃ q,h'.get? s.heap.objs.size=some q:=let ⟨q,_,_,hq,_⟩:=dd';⟨q,hq⟩
 exact d_write I2 (by rw [e];exact True.intro) hs he (dk_new hz hd (rk.merge .nil) dd')
section
variable {X:Cx}{pins:List (Addr×Obj)}{σ:St}{H:Hp}{s:Shared}{a:Addr}{y d:V}{u r:Value}{o:Option V}{A:Around}{E:Value->Shared->Prop}
end
section
variable {X:Cx}{o e f:Expr}{apos cpos:Pos}{td ty tx:TE}
end
section
variable {X:Cx}{pins:List (Addr×Obj)}{σ:St}{H:Hp}{s:Shared}{a:Addr}{kvs:List (Key×V)}{A:Around}{E:Value->Shared->Prop}
end
section
variable {X:Cx}{pins:List (Addr×Obj)}{σ:St}{H:Hp}{s:Shared}{a:Addr}{y:V}{u:Value}{A:Around}{E:Value->Shared->Prop}
end
end L2
namespace HT
open PySem PyProof.Rows
section
open PySem.SeqAt
open PySem.AutoSeq1 (wpAny_loadPart')
open PySem.MeetsSeq PySem.MeetsSeq2 PySem.MeetsSeq3
end
section
variable {prog:Program}{w:World}{A:Around}{E:Value->Shared->Prop}{s:Shared}
def sIx (n d:Nat):Option Int->Nat
 | none=>d
 | some v=>if v < 0 then (v + (n:Int)).toNat else min v.toNat n
theorem sIx_nat (n d k:Nat):sIx n d (some (k:Int))=min k n:=by
 show (if (k:Int) < 0 then ((k:Int) + (n:Int)).toNat else min (k:Int).toNat n)=min k n
 rw [if_neg (by omega),zh]
theorem sIx_le (n d:Nat) (hd:d<=n) (o:Option Int):sIx n d o<=n:=by
 cases o with
 | none=>exact hd
 | some v=>
  show (if v < 0 then (v + (n:Int)).toNat else min v.toNat n)<=n
  by_cases hv:v < 0
  ·rw [if_pos hv];omega
  ·rw [if_neg hv];exact Nat.min_le_right _ _
theorem clip_eq (v:Int) (n d:Nat):(if v < 0 then max (v + (n:Int)) 0 else min v (n:Int))=((sIx n d (some v):Nat):Int):=by
 show (if v < 0 then max (v + (n:Int)) 0 else min v (n:Int))=(((if v < 0 then (v + (n:Int)).toNat else min v.toNat n):Nat):Int)
 by_cases hv:v < 0
 ·simp only [if_pos hv];omega
 ·simp only [if_neg hv];omega
theorem adjust_gen (lo hi:Option Int) (n:Nat):Builtin.Slice.sliceAdjust lo hi 1 (n:Int)=(((sIx n 0 lo:Nat):Int),((sIx n n hi:Nat):Int)):=by
 have h1:¬ ((1:Int) < 0):=by omega
 unfold Builtin.Slice.sliceAdjust
 simp only [h1,if_false]
 refine Prod.ext ?_ ?_
 ·cases lo with
  | none=>rfl
  | some v=>exact clip_eq v n 0
 ·cases hi with
  | none=>rfl
  | some v=>exact clip_eq v n n
theorem places_gen (i j:Nat):Builtin.Slice.slicePlaces (i:Int) (j:Int) 1=j - i:=by
 unfold Builtin.Slice.slicePlaces
 have h1:(1:Int) > 0:=by omega
 simp only [h1,if_true,Int.ediv_one]
 split <;> omega
theorem slicePart_ {v:Value}{o:Option Int}{Q:Option Int->Shared->Prop} (p:IsPart v o) (h:Q o s):wpAny (model prog w) A (Builtin.Slice.slicePartIndex v) Q E s:=by
 cases p with
 | none=>exact slicePart_none h
 | int i t=>exact slicePart_int h
theorem sliceApplied_gen {sl:Addr}{vl vu:Value}{lo hi:Option Int}{n:Nat}{Q:Int×Int×Nat->Shared->Prop} (hs:s.heap.IsSliceOf sl vl vu .none) (pl:IsPart vl lo) (pu:IsPart vu hi)
  (h:Q (((sIx n 0 lo:Nat):Int),1,sIx n n hi - sIx n 0 lo) s):wpAny (model prog w) A (Builtin.Slice.sliceApplied (.ref sl) (pure (n:Int))) Q E s:=by
 obtain ⟨os,hos,hcs,hds⟩:=id hs
 unfold Builtin.Slice.sliceApplied Builtin.Slice.sliceFields
 refine wpAny_bind (wpAny_bind (wpAny_field hos hds (x:=vl) rfl (wpAny_bind (wpAny_field hos hds (x:=vu) rfl (wpAny_bind (wpAny_field hos hds (x:=.none) rfl (wpAny_pure ?_)))))))
 refine wpAny_bind (slicePart_none ?_)
 show wpAny _ _ (if ((1:Int) == 0)=true then _ else _) _ _ s
 rw [if_neg (by decide)]
 refine wpAny_bind (slicePart_ pl (wpAny_bind (slicePart_ pu (wpAny_bind (wpAny_pure ?_)))))
 show wpAny _ _ (match Builtin.Slice.sliceAdjust lo hi 1 (n:Int) with | (lo,hi)=>pure (lo,(1:Int),Builtin.Slice.slicePlaces lo hi 1)) _ _ s
 rw [adjust_gen lo hi n]
 show wpAny _ _ (pure (((sIx n 0 lo:Nat):Int),(1:Int),Builtin.Slice.slicePlaces ((sIx n 0 lo:Nat):Int) ((sIx n n hi:Nat):Int) 1)) _ _ s
 rw [places_gen]
 exact wpAny_pure h
theorem pick_gen (xs:Array Value) (i k:Nat):((List.range k).filterMap λ(m:Nat)=>xs[((i:Int) + (m:Int) * 1).toNat]?).toArray=((xs.toList.drop i).take k).toArray:=by
 have e:(λ(m:Nat)=>xs[((i:Int) + (m:Int) * 1).toNat]?)=λm=>xs[i + m]?:=by
  funext m
  have:((i:Int) + (m:Int) * 1).toNat=i + m:=by omega
  rw [this]
 rw [e]
 have:=pick_run xs i k
 rw [List.filterMap_map] at this
 have e2:((λx=>xs[x]?) ∘ λx=>i + x)=λm=>xs[i + m]?:=rfl
 rw [e2] at this
 rw [this]
theorem getItem_tuple_cut {t sl:Addr}{items:Array Value}{vl vu:Value}{lo hi:Option Int}{Q:Value->Shared->Prop} (ht:IsTup s.heap t items) (hs:s.heap.IsSliceOf sl vl vu .none) (pl:IsPart vl lo) (pu:IsPart vu hi)
  (hw:¬ (sIx items.size 0 lo=0/\sIx items.size items.size hi=items.size))
  (h:Q (.ref s.heap.objs.size) { s with heap:=s.heap.push { cls:=.type "tuple", data:=.seq ((items.toList.drop (sIx items.size 0 lo)).take (sIx items.size items.size hi - sIx items.size 0 lo)).toArray } })
  (hsz:items.size<=sizeLine):wpAny (model prog w) A (getItem (.ref t) (.ref sl)) Q E s:=by
 have htake:sizeOk (.seq ((items.toList.drop (sIx items.size 0 lo)).take (sIx items.size items.size hi - sIx items.size 0 lo)).toArray):=by
  show ((items.toList.drop (sIx items.size 0 lo)).take (sIx items.size items.size hi - sIx items.size 0 lo)).toArray.size<=sizeLine
  rw [zM,zX,yo,Array.length_toList]
  omega
 have hj:sIx items.size items.size hi<=items.size:=sIx_le _ _ (zD _) hi
 obtain ⟨os,hos,hcs,hds⟩:=id hs
 have hTs:s.TypeIs (.ref sl) "slice" := ⟨os,hos,hcs⟩
 unfold getItem
 try with_reducible refine wpAny_holding ?_
 first | refine wpAny_bind (wpAny_pure ?_) | skip
 refine wpAny_bind (wpAny_sequenceKey ht.typeIs (by decide) ?_)
 refine wpAny_bind (wpAny_callSpecial?_slot (name:=Str.ofString "__getitem__") ht.typeIs PyProof.Rows.slot_tuple_getitem
  (wpAny_call_entry PyProof.Rows.slot_tuple_getitem ht.typeIs entry_tuple_getitem ?_ (args_tuple_getitem _ _)))
 show wpAny _ _ (Builtin.Tuple.tupleItemsOf (.ref t) >>= _) _ _ s
 refine wpAny_bind (tupleItemsOf_ ht ?_)
 refine wpAny_bind (wpAny_typeOf hTs ?_)
 rw [if_pos (by decide)]
 refine wpAny_bind (sliceApplied_gen hs pl pu ?_)
 have hno:¬ ((((sIx items.size 0 lo:Nat):Int) == 0 && (1:Int) == 1 && (sIx items.size items.size hi - sIx items.size 0 lo) == items.size)=true):=by
  intro q
  rw [yd,yd] at q
  have q1:((sIx items.size 0 lo:Nat):Int)=0:=eq_of_beq q.1.1
  have q2:sIx items.size items.size hi - sIx items.size 0 lo=items.size:=eq_of_beq q.2
  exact hw ⟨by omega,by omega⟩
 show wpAny _ _ (if (((sIx items.size 0 lo:Nat):Int) == 0 && (1:Int) == 1 && (sIx items.size items.size hi - sIx items.size 0 lo) == items.size)=true then _ else _) _ _ s
 rw [if_neg hno,pick_gen]
 first
  | exact wpAny_bind (m:=Builtin.Tuple.tupleExact _) (wpAny_newObj_type (wpAny_pure ⟨_,rfl,wpAny_pure h⟩) htake)
  | exact wpAny_bind (m:=Builtin.Tuple.tupleExact _) (wpAny_newObj_type (wpAny_bind (wpAny_pure (wpAny_pure ⟨_,rfl,wpAny_pure h⟩))) htake)
  | exact wpAny_bind (wpAny_bind (m:=Builtin.Tuple.tupleExact _) (wpAny_newObj_type (wpAny_pure (wpAny_pure ⟨_,rfl,wpAny_pure h⟩)) htake))
  | exact wpAny_bind (wpAny_bind (m:=Builtin.Tuple.tupleExact _) (wpAny_newObj_type (wpAny_pure ⟨_,rfl,wpAny_pure h⟩) htake))
end
end HT
namespace L2
open PySem PySem.Spec PyProof.Rows
abbrev TO:=St->Hp->(Option Int->Hp->Prop)->Prop
def PO (X:Cx) (e:Option Expr) (t:TO):Prop:=
 ∀ (pins:List (Addr×Obj)) (s:Shared) (σ:St) (H:Hp) (Q:Option Int->Hp->Prop),Inv X pins σ H s->t σ H Q ->
  wpAny (model X.prog X.w) X.A (evalPart e X.env) (λu s'=>∃ o H',Inv X pins σ H' s'/\IsPart u o/\Q o H') X.xe s
def tNoPart:TO:=λ_ H Q=>Q none H
def tPart (t:TE):TO:=fun σ H Q=>t σ H λx H1=>∃ i,x=.int i/\Q (some i) H1
section
variable {X:Cx}{e:Expr}{te:TE}{lo hi:Option Expr}{tl th:TO} {pos p2:Pos}
theorem po_none:PO X none tNoPart:=by
 intro pins s σ H Q I h
 rw [evalPart_none]
 exact wpAny_pure ⟨none,H,I,.none,h⟩
theorem po_some (h:PE X e te):PO X (some e) (tPart te):=by
 intro pins s σ H Q I hw
 rw [evalPart_some]
 refine thn (h pins s σ H _ I hw) λu s1 ⟨x,H1,I1,r1,q1⟩=>?_
 obtain ⟨i,rfl,q⟩:=q1
 obtain ⟨t,rfl⟩:=r1
 exact ⟨some i,H1,I1,.int i t,q⟩
def SlR (X:Cx) (r:V->Option Int->Option Int->Hp->VK->Prop):Prop:=
 ∀ (pins:List (Addr×Obj)) (s:Shared) (σ:St) (H:Hp) (x:V) (v vl vu:Value) (lo hi:Option Int) (sl:Addr) (Q:VK),Inv X pins σ H s->RelV x v->s.heap.IsSliceOf sl vl vu .none->IsPart vl lo->IsPart vu hi->r x lo hi H Q ->
  ∃ T id,typeLookup (.type T) "__getitem__" = pure (some (.builtin id))/\s.TypeIs v T/\wpAny (model X.prog X.w) X.A (getItem v (.ref sl)) (EP X pins σ Q) X.xe s
def tSl (r:V->Option Int->Option Int->Hp->VK->Prop) (te:TE) (tl th:TO):TE:=fun σ H Q=>te σ H λx H1=>tl σ H1 λl H2=>th σ H2 λu H3=>r x l u H3 Q
theorem pe_slice {r:V->Option Int->Option Int->Hp->VK->Prop} (hr:SlR X r) (he:PE X e te) (hl:PO X lo tl) (hu:PO X hi th):PE X (.Subscript e (.Slice lo hi none p2) pos) (tSl r te tl th):=by
 intro pins s σ H Q I h
 refine Subscript_ (thn (he pins s σ H _ I h) λv s1 ⟨x,H1,I1,r1,q1⟩=>?_)
 refine wpAny_Slice (thn (hl pins s1 σ H1 _ I1 q1) λvl s2 ⟨l,H2,I2,pl,q2⟩=>thn (hu pins s2 σ H2 _ I2 q2) λvu s3 ⟨u,H3,I3,pu,q3⟩=>?_)
 rw [evalPart_none]
 refine wpAny_pure ?_
 have I4:Inv X pins σ H3 { s3 with heap:=s3.heap.push { cls:=.type "slice", data:=.fields #[vl,vu,.none] } }:=I3.kept (t':=s3.toks) λb ob q=>Heap.get?_push_of_some _ q
 obtain ⟨T,id,hT,ht,hg⟩:=hr pins { s3 with heap:=s3.heap.push { cls:=.type "slice", data:=.fields #[vl,vu,.none] } } σ H3 x v vl vu l u s3.heap.objs.size Q I4 r1 (Heap.IsSliceOf.new ..) pl pu q3
 show wpAny (model X.prog X.w) X.A (subscriptTail e (.Slice lo hi none p2) v (.ref s3.heap.objs.size)) (EP X pins σ Q) X.xe { s3 with heap:=s3.heap.push { cls:=.type "slice", data:=.fields #[vl,vu,.none] } }
 exact tail_any (ops:=[.ref s3.heap.objs.size,v]) ht hT hg (by with_unfolding_all rfl)
def cutV (xs:List V) (lo hi:Option Int):List V:=(xs.drop (HT.sIx xs.length 0 lo)).take (HT.sIx xs.length xs.length hi - HT.sIx xs.length 0 lo)
theorem cutV_length (xs:List V) (lo hi:Option Int):(cutV xs lo hi).length<=xs.length:=by
 unfold cutV
 rw [zX,yo]
 omega
def rSlT (K:PySem.W.Frag):V->Option Int->Option Int->Hp->VK->Prop:=λx lo hi H Q=>∃ a xs,x=.ref a/\SqT K H a xs /\
 ¬ (HT.sIx xs.length 0 lo=0/\HT.sIx xs.length xs.length hi=xs.length)/\∀ p,H p=none->Q (.ref p) (upd H p (.tup (cutV xs lo hi)))
theorem sl_tup:SlR X (rSlT X.K):=by
 intro pins s σ H x v vl vu lo hi sl Q I rx hs pl pu h
 obtain ⟨a,xs,rfl,hx,hw,q⟩:=h
 cases rx
 obtain ⟨its,r,ht,hz⟩:=I.tuple hx
 have hlen:its.toArray.size=xs.length:=by rw [zM];exact r.length.symm
 refine ⟨"tuple", _,PyProof.Rows.slot_tuple_getitem.lookup,ht.typeIs,?_⟩
 refine HT.getItem_tuple_cut ht hs pl pu (by rw [hlen];exact hw) ?_ (by rw [hlen];exact hz)
 rw [hlen]
 refine ⟨.ref s.heap.objs.size,_,I.laid (t':=s.toks) (o:=.tup (cutV xs lo hi)) (λb ob q=>Heap.get?_push_of_some _ q) (zD _) ?_,rfl,q _ (I.hok.fresh (zD _))⟩
 exact ⟨⟨z8 (cutV_length xs lo hi) hz,new_bare⟩,_,(r.drop (HT.sIx xs.length 0 lo)).take (HT.sIx xs.length xs.length hi - HT.sIx xs.length 0 lo),IsTup.new _ _⟩
end
end L2
namespace L2
open PySem PySem.Spec PyProof.Rows
def ixN (n:Nat) (i:Int):Option Nat:=if 0<=i then (if i < n then some i.toNat else none) else if -(n:Int)<=i then some (i + n).toNat else none
def atI {α:Type} (xs:List α) (i:Int):Option α:=(ixN xs.length i).bind λj=>xs[j]?
theorem ixN_seq {n:Nat}{i:Int}{j:Nat} (h:ixN n i=some j):seqIndex? i n=some j/\j < n/\-(n:Int)<=i/\i < n:=by
 unfold ixN at h
 by_cases h0:0<=i
 ·rw [if_pos h0] at h
  by_cases h1:i < n
  ·rw [if_pos h1] at h
   have e:i.toNat=j:=Option.some.inj h
   exact ⟨by rw [seqIndex_of h0 h1,e],by omega,by omega,h1⟩
  ·rw [if_neg h1] at h;cases h
 ·rw [if_neg h0] at h
  by_cases h1:-(n:Int)<=i
  ·rw [if_pos h1] at h
   have e:(i + n).toNat=j:=Option.some.inj h
   exact ⟨by rw [seqIndex_neg (by omega) h1,e],by omega,h1,by omega⟩
  ·rw [if_neg h1] at h;cases h
theorem atI_get {α:Type}{xs:List α}{i:Int}{v:α} (h:atI xs i=some v):∃ j,seqIndex? i xs.length=some j/\xs[j]?=some v/\j < xs.length/\-(xs.length:Int)<=i/\i < xs.length:=by
 unfold atI at h
 cases e:ixN xs.length i with
 | none=>rw [e] at h;cases h
 | some j=>
  rw [e] at h
  obtain ⟨h1,h2,h3,h4⟩:=ixN_seq e
  exact ⟨j,h1,h,h2,h3,h4⟩
theorem wF {α:Type}{xs:List α}{j:Nat}{v:α} (h:xs[j]?=some v):atI xs (j:Int)=some v:=by
 have hj:j < xs.length:=(zB.mp h).1
 have e:ixN xs.length (j:Int)=some j:=by
  unfold ixN
  rw [if_pos (by omega),if_pos (by omega)];simp
 unfold atI;rw [e];exact h
theorem atI_last {α:Type} (xs:List α) (v:α):atI (xs++[v]) (-1)=some v:=by
 have hl:(xs++[v]).length=xs.length + 1:=by simp
 have e:ixN (xs++[v]).length (-1)=some xs.length:=by
  unfold ixN
  rw [hl,if_neg (by decide),if_pos (by omega)]
  congr 1
  omega
 unfold atI
 rw [e]
 show (xs++[v])[xs.length]?=some v
 simp
def PlainIx (b:Expr):Prop:=∀ o i,subscripted b false o i=operate [o,i] (getItem o i)
def IxR (X:Cx) (r:R2):Prop:=
 ∀ (value slice:Expr) (pins:List (Addr×Obj)) (s:Shared) (σ:St) (H:Hp) (x y:V) (v u:Value) (Q:VK),Inv X pins σ H s->RelV x v->RelV y u->r x y H Q ->
  subscripted slice false v u=operate [v,u] (getItem v u)->wpAny (model X.prog X.w) X.A (subscriptTail value slice v u) (EP X pins σ Q) X.xe s
def MtR (X:Cx) (id:String) (r:V->List V->Hp->VK->Prop):Prop:=
 ∀ (pins:List (Addr×Obj)) (s:Shared) (σ:St) (H:Hp) (x:V) (xs:List V) (v:Value) (us:List Value) (Q:VK),Inv X pins σ H s->RelV x v->Vals xs us->r x xs H Q ->
  wpAny (model X.prog X.w) X.A (call (.builtin id) (v::us)) (EP X pins σ Q) X.xe s
section
variable {X:Cx}{a b:Expr}{ta tb:TE}{pos:Pos}
theorem xw {r:R2} (hr:IxR X r) (ha:PE X a ta) (hb:PE X b tb) (hs:PlainIx b):PE X (.Subscript a b pos) (tOp r ta tb):=by
 intro pins s σ H Q I h
 exact Subscript_ (binT ha hb I h λv u s2 x y H2 I2 rx ry q=>hr a b pins s2 σ H2 x y v u Q I2 rx ry q (hs _ _))
def rIxL (K:PySem.W.Frag):R2:=λx y H Q=>∃ p xs i v,x=.ref p/\y=.int i/\SqL K H p xs/\atI xs i=some v/\Q v H
def rIxT (K:PySem.W.Frag):R2:=λx y H Q=>∃ p xs i v,x=.ref p/\y=.int i/\SqT K H p xs/\atI xs i=some v/\Q v H
theorem ix_list:IxR X (rIxL X.K):=by
 intro value slice pins s σ H x y v u Q I rx ry h hs
 obtain ⟨p,xs,i,z,rfl,rfl,hq,he,q⟩:=h
 cases rx
 obtain ⟨t,rfl⟩:=ry
 obtain ⟨its,r,pl,hz⟩:=I.list hq
 obtain ⟨j,h1,h2,h3,h4,h5⟩:=atI_get he
 obtain ⟨w,ew,rw'⟩:=r.get h2
 have hl:=r.length
 have hn:=line63
 have fin:EP X pins σ Q w s:=⟨z,H,I,rw',q⟩
 by_cases h0:0<=i
 ·have hj:i.toNat=j:=by
   rw [seqIndex_of h0 h5] at h1
   exact Option.some.inj h1
  exact item_listR pl.isList h0 (by omega) (by rw [hj];simpa using ew) fin hs
 ·have hj:(i + (its.toArray.size:Int)).toNat=j:=by
   rw [seqIndex_neg (by omega) h4] at h1
   rw [zM,<- hl]
   exact Option.some.inj h1
  exact subscriptTail_builtinR (x:=w) pl.isList.typeIs slot_list_getitem.lookup
   (wpAny_getItem_list_neg (Q:=λr s'=>r=w/\EP X pins σ Q r s') pl.isList (by omega) (by rw [zM] <;> omega) (by omega) (by rw [hj];simpa using ew) ⟨rfl,fin⟩) hs
theorem ix_tup:IxR X (rIxT X.K):=by
 intro value slice pins s σ H x y v u Q I rx ry h hs
 obtain ⟨p,xs,i,z,rfl,rfl,hq,he,q⟩:=h
 cases rx
 obtain ⟨t,rfl⟩:=ry
 obtain ⟨its,r,pl,hz⟩:=I.tuple hq
 obtain ⟨j,h1,h2,h3,h4,h5⟩:=atI_get he
 obtain ⟨w,ew,rw'⟩:=r.get h2
 have hl:=r.length
 have hn:=line63
 have fin:EP X pins σ Q w s:=⟨z,H,I,rw',q⟩
 exact subscriptTail_builtinR (x:=w) pl.typeIs slot_tuple_getitem.lookup
  (getItem_tuple (j:=j) (Q:=λr s'=>r=w/\EP X pins σ Q r s') pl (by omega) (by omega) (by rw [zM,<- hl];exact h1) (by simpa using ew) ⟨rfl,fin⟩) hs
theorem mapSeq_set (its:List Value) (n j:Nat) (u:Value):Obj.mapSeq (·.setIfInBounds j u) { cls:=.type "list", data:=.seq its.toArray n }={ cls:=.type "list", data:=.seq (its.set j u).toArray n }:=by
 simp [Obj.mapSeq]
theorem Inv.lst {pins:List (Addr×Obj)}{σ:St}{H:Hp}{s:Shared}{p:Addr}{xs:List V} (I:Inv X pins σ H s) (h:H p=some (.lst xs)) :
  ∃ (its:List Value) (n:Nat),Vals xs its/\s.heap.get? p=some { cls:=.type "list", data:=.seq its.toArray n }/\xs.length<=sizeLine:=by
 obtain ⟨z,its,n,r,e⟩:=I.hok p _ h
 exact ⟨its,n,r,e,z⟩
theorem Inv.lstUpd {pins:List (Addr×Obj)}{σ:St}{H:Hp}{s:Shared}{p:Addr}{xs ys:List V}{its its':List Value}{n n':Nat}{f:Obj->Obj} (I:Inv X pins σ H s) (h:H p=some (.lst xs))
  (ho:s.heap.get? p=some { cls:=.type "list", data:=.seq its.toArray n }) (hf:f { cls:=.type "list", data:=.seq its.toArray n }={ cls:=.type "list", data:=.seq its'.toArray n' }) (r:Vals ys its') (hz:ys.length<=sizeLine) (t:Nat) :
  Inv X pins σ (upd H p (.lst ys)) { s with heap:=s.heap.update p f,toks:=t }:=by
 have e:(s.heap.update p f).get? p=some { cls:=.type "list", data:=.seq its'.toArray n' }:=by
  rw [Heap.get?_update_self f ho (by rw [hf] <;> rfl),hf]
 refine I.write (x:=p) (e:=p) (by rw [h];trivial) (.inl rfl) (λb u hb q=>(Heap.get?_update_other _ _ (Ne.symm hb)).trans q) ⟨_,e⟩ ?_
 exact ⟨hz,its',n',r,e⟩
def rSetL:V->V->V->Hp->(Hp->Prop)->Prop:=λo i v H Q=>∃ p xs k j,o=.ref p/\i=.int k/\H p=some (.lst xs)/\ixN xs.length k=some j/\Q (upd H p (.lst (xs.set j v)))
theorem set_list:PSet X rSetL:=by
 intro pins s σ H o i v ov iv u Q I ro ri rv h
 obtain ⟨p,xs,k,j,rfl,rfl,hp,hj,q⟩:=h
 cases ro
 obtain ⟨t,rfl⟩:=ri
 obtain ⟨its,n,r,ho,hz⟩:=I.lst hp
 obtain ⟨h1,h2,h3,h4⟩:=ixN_seq hj
 have hl:=r.length
 have hn:=line63
 have I':Inv X pins σ (upd H p (.lst (xs.set j v))) { s with heap:=s.heap.update p (Obj.mapSeq (·.setIfInBounds j u)) }:=
  I.lstUpd hp ho (mapSeq_set its n j u) (r.set rv j) (by rw [xO];exact hz) s.toks
 by_cases h0:0<=k
 ·have hk:k.toNat=j:=by
   rw [seqIndex_of h0 h4] at h1
   exact Option.some.inj h1
  exact PySem.W.ki_setAt ho h0 (by omega) (by rw [zM,<- hl];exact h4) (by rw [hk];exact ⟨_,I',q⟩)
 ·have hk:(k + (its.toArray.size:Int)).toNat=j:=by
   rw [seqIndex_neg (by omega) h3] at h1
   rw [zM,<- hl]
   exact Option.some.inj h1
  exact PySem.W.ki_setBack ho (by omega) (by rw [zM,<- hl];exact h3) (by omega) (by rw [hk];exact ⟨_,I',q⟩)
theorem slice_bounds (lo hi:Option Int) (n:Nat):(sliceBounds lo hi none n).1=((HT.sIx n 0 lo:Nat):Int)/\(sliceBounds lo hi none n).2.1=((HT.sIx n n hi:Nat):Int)/\(sliceBounds lo hi none n).2.2=1:=by
 refine ⟨?_,?_,rfl⟩
 ·cases lo with
  | none=>simp [sliceBounds,HT.sIx]
  | some i=>
   simp only [sliceBounds,HT.sIx,Option.getD_none,show (1:Int) > 0 by decide,if_true]
   by_cases h:i < 0
   ·simp only [h,if_true] <;> omega
   ·simp only [h,if_false] <;> omega
 ·cases hi with
  | none=>simp [sliceBounds,HT.sIx]
  | some i=>
   simp only [sliceBounds,HT.sIx,Option.getD_none,show (1:Int) > 0 by decide,if_true]
   by_cases h:i < 0
   ·simp only [h,if_true] <;> omega
   ·simp only [h,if_false] <;> omega
theorem slicePick_cut (its:List Value) (lo hi:Option Int):slicePick its.toArray lo hi none=((its.drop (HT.sIx its.length 0 lo)).take (HT.sIx its.length its.length hi - HT.sIx its.length 0 lo)).toArray:=by
 obtain ⟨h1,h2,h3⟩:=slice_bounds lo hi its.toArray.size
 unfold slicePick
 rw [h1,h2,h3]
 simp only [sliceRange_one,pick_run,zM] <;> rfl
def rSlL (K:PySem.W.Frag):V->Option Int->Option Int->Hp->VK->Prop:=λx lo hi H Q=>∃ a xs,x=.ref a/\SqL K H a xs/\∀ p,H p=none->Q (.ref p) (upd H p (.lst (cutV xs lo hi)))
theorem sl_list:SlR X (rSlL X.K):=by
 intro pins s σ H x v vl vu lo hi sl Q I rx hs pl pu h
 obtain ⟨a,xs,rfl,hx,q⟩:=h
 cases rx
 obtain ⟨its,r,ht,hz⟩:=I.list hx
 have hlen:=r.length
 refine ⟨"list", _,slot_list_getitem.lookup,ht.isList.typeIs,?_⟩
 refine wpAny_getItem_list_slice ht.isList hs pl pu .none (by simp) ?_ (by rw [zM] <;> omega)
 rw [slicePick_cut,<- hlen]
 refine ⟨.ref s.heap.objs.size,_,I.laid (t':=s.toks) (o:=.lst (cutV xs lo hi)) (λb ob q=>Heap.get?_push_of_some _ q) (zD _) ?_,rfl,q _ (I.hok.fresh (zD _))⟩
 exact ⟨z8 (cutV_length xs lo hi) hz,_,0,(r.drop (HT.sIx xs.length 0 lo)).take (HT.sIx xs.length xs.length hi - HT.sIx xs.length 0 lo),Heap.get?_push_size _ rfl⟩
def flatV:V->Bool
 | .non=>true
 | .bl _=>true
 | .int _=>true
 | .str _=>true
 | _=>false
def eqV:V->V->Bool
 | .non,.non=>true
 | .bl a,.bl b=>a == b
 | .bl a,.int b=>(if a then 1 else 0) == b
 | .int a,.bl b=>a == (if b then 1 else 0)
 | .int a,.int b=>a == b
 | .str a,.str b=>a == b
 | _,_=>false
theorem eqAt_V {A:Around}{s:Shared}{y x:V}{u v:Value} (ry:RelV y u) (rx:RelV x v) (fy:flatV y=true) (fx:flatV x=true):SeqAt.EqAt A s u v (eqV y x):=by
 cases y with
 | non=>
  cases ry
  cases x with
  | non=>cases rx;exact SeqAt.EqAt.same _
  | bl b=>cases rx;exact SeqAt.EqAt.none_bool b
  | int b=>obtain ⟨t,rfl⟩:=rx;exact SeqAt.EqAt.none_int b t
  | str b=>obtain ⟨t,rfl⟩:=rx;exact SeqAt.EqAt.none_str b t
  | _=>exact absurd (show false=true from fx) zJ
 | bl a=>
  cases ry
  cases x with
  | non=>cases rx;exact SeqAt.EqAt.bool_none a
  | bl b=>cases rx;exact SeqAt.EqAt.bool_bool a b
  | int b=>obtain ⟨t,rfl⟩:=rx;exact SeqAt.EqAt.bool_int a b t
  | str b=>obtain ⟨t,rfl⟩:=rx;exact SeqAt.EqAt.bool_str a b t
  | _=>exact absurd (show false=true from fx) zJ
 | int a=>
  obtain ⟨t',rfl⟩:=ry
  cases x with
  | non=>cases rx;exact SeqAt.EqAt.int_none a t'
  | bl b=>cases rx;exact SeqAt.EqAt.int_bool a t' b
  | int b=>obtain ⟨t,rfl⟩:=rx;exact SeqAt.EqAt.int_int a t' b t
  | str b=>obtain ⟨t,rfl⟩:=rx;exact SeqAt.EqAt.int_str a t' b t
  | _=>exact absurd (show false=true from fx) zJ
 | str a=>
  obtain ⟨t',rfl⟩:=ry
  cases x with
  | non=>cases rx;exact SeqAt.EqAt.str_none a t'
  | bl b=>cases rx;exact SeqAt.EqAt.str_bool a t' b
  | int b=>obtain ⟨t,rfl⟩:=rx;exact SeqAt.EqAt.str_int a t' b t
  | str b=>obtain ⟨t,rfl⟩:=rx;exact SeqAt.EqAt.str_str a t' b t
  | _=>exact absurd (show false=true from fx) zJ
 | _=>exact absurd (show false=true from fy) zJ
def eqU (x:V) (u:Value):Bool:=match u with
 | .none=>eqV .non x
 | .bool b=>eqV (.bl b) x
 | .int i _=>eqV (.int i) x
 | .str z _=>eqV (.str z) x
 | _=>false
theorem eqU_of {x y:V}{u:Value} (r:RelV y u) (f:flatV y=true):eqU x u=eqV y x:=by
 cases y with
 | non=>cases r;rfl
 | bl b=>cases r;rfl
 | int i=>obtain ⟨t,rfl⟩:=r;rfl
 | str z=>obtain ⟨t,rfl⟩:=r;rfl
 | _=>exact absurd (show false=true from f) zJ
theorem any_eqU {x:V}:∀ {xs:List V}{us:List Value},Vals xs us->xs.all flatV=true->us.any (eqU x)=xs.any λy=>eqV y x
 | _,_,.nil,_=>rfl
 | y::xs,u::us,.cons r t,f=>by
  rw [List.all_cons,yd] at f
  rw [xB,xB,eqU_of r f.1,any_eqU t f.2]
theorem mem_eqAt {A:Around}{s:Shared}{x:V}{v:Value} (rx:RelV x v) (fx:flatV x=true):∀ {xs:List V}{us:List Value},Vals xs us->xs.all flatV=true->∀ u∈us,SeqAt.EqAt A s u v (eqU x u)
 | _,_,.nil,_=>λu hu=>by cases hu
 | y::xs,u::us,.cons r t,f=>λu' hu=>by
  rw [List.all_cons,yd] at f
  rcases zH.mp hu with rfl | hu
  ·rw [eqU_of r f.1];exact eqAt_V r rx f.1 fx
  ·exact mem_eqAt rx fx t f.2 u' hu
def inV (x:V) (xs:List V):Bool:=xs.any λy=>eqV y x
def rIn (K:PySem.W.Frag) (neg:Bool):R2:=λx y H Q=>∃ p xs,y=.ref p/\(SqL K H p xs\/SqT K H p xs)/\flatV x=true/\xs.all flatV=true/\Q (.bl (if neg then !inV x xs else inV x xs)) H
theorem op_in_seq:OpR X (compareOp .In) (rIn X.K false):=by
 intro pins s σ H x y v u Q I rx ry h
 obtain ⟨p,xs,rfl,hq,fx,fs,q⟩:=h
 cases ry
 rcases hq with hq | hq
 ·obtain ⟨its,r,pl,hz⟩:=I.list hq
  refine SeqAt.in_listAt (eqU x) pl.isList (λw hw=>mem_eqAt rx fx r fs w (by simpa using hw)) ⟨.bl _,H,I,rfl,?_⟩
  rw [show its.toArray.any (eqU x)=its.any (eqU x) by simp,any_eqU r fs]
  exact q
 ·obtain ⟨its,r,pl,hz⟩:=I.tuple hq
  refine SeqAt.in_tupleAt (eqU x) pl (λw hw=>mem_eqAt rx fx r fs w (by simpa using hw)) ⟨.bl _,H,I,rfl,?_⟩
  rw [show its.toArray.any (eqU x)=its.any (eqU x) by simp,any_eqU r fs]
  exact q
theorem op_notIn_seq:OpR X (compareOp .NotIn) (rIn X.K true):=by
 intro pins s σ H x y v u Q I rx ry h
 obtain ⟨p,xs,rfl,hq,fx,fs,q⟩:=h
 cases ry
 rcases hq with hq | hq
 ·obtain ⟨its,r,pl,hz⟩:=I.list hq
  refine SeqAt.notIn_listAt (eqU x) pl.isList (λw hw=>mem_eqAt rx fx r fs w (by simpa using hw)) ⟨.bl _,H,I,rfl,?_⟩
  rw [show its.toArray.any (eqU x)=its.any (eqU x) by simp,any_eqU r fs]
  exact q
 ·obtain ⟨its,r,pl,hz⟩:=I.tuple hq
  refine SeqAt.notIn_tupleAt (eqU x) pl (λw hw=>mem_eqAt rx fx r fs w (by simpa using hw)) ⟨.bl _,H,I,rfl,?_⟩
  rw [show its.toArray.any (eqU x)=its.any (eqU x) by simp,any_eqU r fs]
  exact q
theorem call_len_seq:CallR X (.builtin "len") (λxs H Q=>∃ p ys,xs=[.ref p]/\(SqL X.K H p ys\/SqT X.K H p ys)/\Q (.int ys.length) H):=by
 intro pins s σ H xs us Q I r h
 obtain ⟨p,ys,rfl,hq,q⟩:=h
 obtain ⟨u,rfl,rx⟩:=vals1 r
 cases rx
 have hn:=line63
 rcases hq with hq | hq
 ·obtain ⟨its,r',pl,hz⟩:=I.list hq
  have hlen:=r'.length
  exact Calls.call_len_list pl.isList (by simp only [zM] <;> omega) ⟨.int ys.length,H,I.tok _,⟨s.toks + 1,by rw [zM,hlen]⟩,q⟩
 ·obtain ⟨its,r',pl,hz⟩:=I.tuple hq
  have hlen:=r'.length
  exact len_tuple pl (by simp only [zM] <;> omega) ⟨.int ys.length,H,I.tok _,⟨s.toks + 1,by rw [zM,hlen]⟩,q⟩
theorem call_list_of:CallR X (.type "list") (λxs H Q=>∃ p ys,xs=[.ref p]/\(SqL X.K H p ys\/SqT X.K H p ys)/\∀ l,H l=none->Q (.ref l) (upd H l (.lst ys))):=by
 intro pins s σ H xs us Q I r h
 obtain ⟨p,ys,rfl,hq,q⟩:=h
 obtain ⟨u,rfl,rx⟩:=vals1 r
 cases rx
 have fin:∀ (its:List Value),Vals ys its->ys.length<=sizeLine->∀ (h':Heap) (c':Nat),(∀ b o',s.heap.get? b=some o'->h'.get? b=some o') ->
   h'.get? s.heap.objs.size=some { cls:=.type "list", dict:=none,data:=.seq its.toArray c',slots:=#[] }->EP X pins σ Q (.ref s.heap.objs.size) { s with heap:=h' }:=λits r' hz h' c' kp e=>
  ⟨.ref s.heap.objs.size,_,I.laid (t':=s.toks) kp (zD _) (show ObjOk X.prog X.w _ h' _ (.lst ys) from ⟨hz,its,c',r',e⟩),rfl,q _ (I.hok.fresh (zD _))⟩
 rcases hq with hq | hq
 ·obtain ⟨its,r',pl,hz⟩:=I.list hq
  have hlen:=r'.length
  obtain ⟨o,ho,hc,n,hd⟩:=pl.isList
  exact call_list_seq p (.inl rfl) ho hc hd (λh' c' kp e=>fin its r' hz h' c' kp e) (by simp only [zM] <;> omega)
 ·obtain ⟨its,r',pl,hz⟩:=I.tuple hq
  have hlen:=r'.length
  obtain ⟨o,ho,hc,n,hd⟩:=pl
  exact call_list_seq p (.inr rfl) ho hc hd (λh' c' kp e=>fin its r' hz h' c' kp e) (by simp only [zM] <;> omega)
theorem call_tuple_of:CallR X (.type "tuple") (λxs H Q=>∃ p ys,xs=[.ref p]/\((SqL X.K H p ys/\∀ l,H l=none->Q (.ref l) (upd H l (.tup ys)))\/(SqT X.K H p ys/\Q (.ref p) H))):=by
 intro pins s σ H xs us Q I r h
 obtain ⟨p,ys,rfl,h⟩:=h
 obtain ⟨u,rfl,rx⟩:=vals1 r
 cases rx
 rcases h with ⟨hq,q⟩ | ⟨hq,q⟩
 ·obtain ⟨its,r',pl,hz⟩:=I.list hq
  have hlen:=r'.length
  refine call_tuple_list pl.isList (λh' kp=>?_) (by simp only [zM] <;> omega)
  have I1:Inv X pins σ H { s with heap:=h' }:=I.kept (t':=s.toks) kp
  have I2:Inv X pins σ (upd H h'.objs.size (.tup ys)) { s with heap:=h'.push { cls:=.type "tuple", data:=.seq its.toArray } }:=
   I1.laid (t':=s.toks) (λb o e=>Heap.get?_push_of_some _ e) (zD _) (show ObjOk X.prog X.w _ _ _ (.tup ys) from ⟨⟨hz,new_bare⟩,its,r',IsTup.new _ _⟩)
  exact ⟨.ref h'.objs.size,_,I2,rfl,q _ (I1.hok.fresh (zD _))⟩
 ·obtain ⟨its,r',pl,hz⟩:=I.tuple hq
  exact call_tuple_same pl ⟨.ref p,H,I,rfl,q⟩
def tyV (K:PySem.W.Frag) (T:String) (x:V) (H:Hp):Prop:=match x with
 | .str _=>T = "str"
 | .int _=>T = "int"
 | .ref p=>(T = "list" /\ ∃ xs,SqL K H p xs)\/(T = "tuple" /\ ((∃ o,K.lookup p=some o/\o.cls=.type "tuple" /\ o.dict=none)\/∃ xs,H p=some (.tup xs))) \/
   (T = "dict" /\ ((∃ kvs,H p=some (.dK kvs))\/∃ kvs,H p=some (.dT kvs)))\/(T = "set" /\ ∃ S n,H p=some (.set S n))
 | _=>False
theorem tyV_is {pins:List (Addr×Obj)}{σ:St}{H:Hp}{s:Shared}{T:String}{x:V}{v:Value} (I:Inv X pins σ H s) (r:RelV x v) (ty:tyV X.K T x H) :
  s.TypeIs v T/\∀ a,v=.ref a->∃ ob,s.heap.get? a=some ob/\ob.dict=none:=by
 cases x with
 | str z=>
  obtain ⟨t,rfl⟩:=r
  cases (show T = "str" from ty)
  exact ⟨typeIs_str s z t,λ_ e=>nomatch e⟩
 | int i=>
  obtain ⟨t,rfl⟩:=r
  cases (show T = "int" from ty)
  exact ⟨typeIs_int s i t,λ_ e=>nomatch e⟩
 | ref p=>
  cases r
  rcases ty with ⟨rfl,xs,hq⟩ | ⟨rfl,⟨o,hk,hc,hd⟩ | ⟨xs,hk⟩⟩ | ⟨rfl,hk⟩ | ⟨rfl,S,n,hk⟩
  ·obtain ⟨its,_,pl,_⟩:=I.list hq
   refine ⟨pl.isList.typeIs,λa e=>?_⟩
   cases e
   obtain ⟨o,n,e,c,hd,_⟩:=pl
   exact ⟨o,e,hd⟩
  ·refine ⟨⟨o,I.kIn p o hk,hc⟩,λa e=>?_⟩
   cases e
   exact ⟨o,I.kIn _ o hk,hd⟩
  ·obtain ⟨nb,_,_,o,e,c,_⟩:=I.hok p _ hk
   exact ⟨⟨o,e,c⟩,λa z=>by cases z;exact ⟨o,e,nb.2 o e⟩⟩
  ·have z:∃ o,s.heap.get? p=some o/\o.ExactDict:=by
    rcases hk with ⟨kvs,hk⟩ | ⟨kvs,hk⟩
    ·obtain ⟨_,_,_,_,o,_,_,e,ex,_⟩:=I.hok p _ hk
     exact ⟨o,e,ex⟩
    ·obtain ⟨_,_,_,_,o,_,_,e,ex,_⟩:=I.hok p _ hk
     exact ⟨o,e,ex⟩
   obtain ⟨o,e,ex⟩:=z
   refine ⟨⟨o,e,ex.1⟩,λa e2=>?_⟩
   cases e2
   exact ⟨o,e,ex.2.1⟩
  ·obtain ⟨o,_,_,_,e,ex,_⟩:=I.hok p _ hk
   refine ⟨⟨o,e,ex.1⟩,λa e2=>?_⟩
   cases e2
   exact ⟨o,e,ex.2.1⟩
 | _=>exact False.elim ty
def tBM (K:PySem.W.Frag) (T:String) (r:V->List V->Hp->VK->Prop) (to:TE) (t:TA):TE:=fun σ H Q=>to σ H λx H1=>tyV K T x H1/\t σ H1 λxs H2=>r x xs H2 Q
variable {o e:Expr}{es:List Expr}{to:TE}{t:TA}{name:Str}{apos cpos:Pos}{T id:String}{r:V->List V->Hp->VK->Prop}
theorem pe_bm (pa:PlainAttrs T) (slot:Slot T name id) (hty:typeOf (.builtin id)=pure (.type "method_descriptor")) (hm:MtR X id r) (ho:PE X o to) (ha:PA X (e::es) t)
  (hbase:attributeBase o name X.env (eval o X.env)=eval o X.env:=by rfl)
  (hfew:((backTo cpos (starEach (e::es) X.env)).all (λx=>!x.1) && (backToKw cpos (keywordEach [] X.env)).all (λx=>x.1.isSome)
   && decide ((e::es).length + ([]:List Keyword).length + (if ([]:List Keyword).isEmpty then 0 else 1) < 30))=true:=by rfl)
  (hline:(apos.endLine == cpos.line)=true:=by rfl) (hs:starEach (e::es) X.env=(false,eval e X.env)::starEach es X.env:=by rfl) (hplain:(backTo cpos (starEach es X.env)).any (·.1)=false:=by rfl) :
  PE X (.Call (.Attribute o name apos) (e::es) [] cpos) (tBM X.K T r to t):=by
 intro pins s σ H Q I h
 refine wpAny_Call_method_late hbase hfew hline rfl (thn (ho pins s σ H _ I h) λv s1 ⟨x,H1,I1,r1,ty,q1⟩=>?_)
 obtain ⟨h1,h2⟩:=tyV_is I1 r1 ty
 refine ⟨T,id,pa,slot,hty,h1,h2,?_⟩
 have hA:=ha cpos pins s1 σ H1 _ I1 q1
 rw [hs] at hA ⊢
 refine Calls.callWith_builtin (by show (false || (backTo cpos (starEach es X.env)).any (·.1))=false;rw [hplain] <;> rfl) (Calls.evalArgs_plain ?_)
 exact thn hA λus s2 ⟨vs,H2,I2,r2,q2⟩=>hm pins s2 σ H2 x vs v us Q I2 r1 r2 q2
/- xs.append(e),list.index on a module's tuple .. are MtR facts of 06m -/
end
end L2
namespace L2
open PySem PySem.Spec PyProof.Rows
def MtM (X:Cx) (id:String) (r:V->List V->Hp->VK->Prop):Prop:=
 ∀ (pins:List (Addr×Obj)) (s:Shared) (σ:St) (H:Hp) (x:V) (xs:List V) (v:Value) (us:List Value) (Q:VK),Inv X pins σ H s->RelV x v->Vals xs us->r x xs H Q ->
  wpAny (model X.prog X.w) X.A (call (.builtin id) (v::us)) (EP X pins σ Q) X.xe s
theorem Vals.one:∀ {x:V}{us:List Value},Vals [x] us->∃ u,us=[u]/\RelV x u
 | _,_,.cons r .nil=>⟨_,rfl,r⟩
theorem Vals.reverse {xs:List V}{us:List Value} (h:Vals xs us):Vals xs.reverse us.reverse:=by
 induction h with
 | nil=>exact .nil
 | cons r t ih=>rw [List.reverse_cons,List.reverse_cons];exact Vals.append ih (.cons r .nil)
section
variable {X:Cx}{pins:List (Addr×Obj)}{σ:St}{H:Hp}{s:Shared}{l b:Addr}{xs ys zs:List V}
theorem Inv.lset {its its':List Value}{n:Nat}{f:Array Value->Array Value}{t':Nat} (I:Inv X pins σ H s) (hH:H l=some (.lst xs))
  (e:s.heap.get? l=some { cls:=.type "list", data:=.seq its.toArray n }) (hf:f its.toArray=its'.toArray) (hv:Vals ys its') (hz:ys.length<=sizeLine) :
  Inv X pins σ (upd H l (.lst ys)) { s with heap:=s.heap.update l (Obj.mapSeq f),toks:=t' }:=by
 have q:=PySem.IsL.update e f
 rw [hf] at q
 refine I.write (x:=l) (e:=l) (by rw [hH];exact trivial) (.inl rfl) (λb' u hb hu=>(Heap.get?_update_other s.heap (Obj.mapSeq f) (Ne.symm hb)).trans hu) ⟨_,q⟩ ?_
 exact ⟨hz,its',_,hv,q⟩
theorem Inv.lnew {its:List Value}{t':Nat} (I:Inv X pins σ H s) (hv:Vals ys its) (hz:ys.length<=sizeLine) :
  Inv X pins σ (upd H s.heap.objs.size (.lst ys)) { s with heap:=s.heap.push { cls:=.type "list", data:=.seq its.toArray },toks:=t' }:=
 I.laid (λ_ _ q=>Heap.get?_push_of_some _ q) (zD _) ⟨hz,its,0,hv,Heap.get?_push_size _ rfl⟩
theorem Inv.fresh (I:Inv X pins σ H s):H s.heap.objs.size=none:=I.hok.fresh (zD _)
theorem Inv.lstM (I:Inv X pins σ H s) (hH:H l=some (.lst xs)):xs.length<=sizeLine/\∃ (its:List Value) (n:Nat),Vals xs its/\xs.length=its.length/\s.heap.get? l=some { cls:=.type "list", data:=.seq its.toArray n }:=by
 obtain ⟨z,its,n,r,e⟩:=I.hok l _ hH
 exact ⟨z,its,n,r,r.length,e⟩
theorem notLongL {n:Nat} (h:n<=sizeLine):Builtin.List.listTooLong n=false:=by
 unfold Builtin.List.listTooLong
 exact decide_eq_false (by omega)
end
section
variable {X:Cx}
def rAppend:V->List V->Hp->VK->Prop:=λx vs H Q=>∃ l xs y,x=.ref l/\vs=[y]/\H l=some (.lst xs)/\xs.length < sizeLine/\Q .non (upd H l (.lst (xs++[y])))
theorem wI:MtM X "list.append" rAppend:=by
 intro pins s σ H x vs v us Q I rx rv h
 obtain ⟨l,xs,y,rfl,rfl,hH,hz,q⟩:=h
 cases rx
 obtain ⟨u,rfl,ru⟩:=rv.one
 obtain ⟨z,its,n,r,hl,e⟩:=I.lstM hH
 refine call_meets F.slot_list_append ⟨_,e,rfl⟩ F.entry_list_append (F.args_list_append_2 _ _) (PySem.list_append l its.toArray n u (by rw [zM];omega)) ⟨e,?_⟩
 refine ⟨.non,_,I.lset (its':=its++[u]) hH e (by simp) (r.append (.cons ru .nil)) ?_,rfl,q⟩
 rw [zE,z6]
 omega
def rCat:R2:=λx y H Q=>∃ l b xs zs,x=.ref l/\y=.ref b/\H l=some (.lst xs)/\H b=some (.lst zs)/\xs.length + zs.length<=sizeLine/\∀ p,H p=none->Q (.ref p) (upd H p (.lst (xs++zs)))
theorem op_cat:OpR X (binaryOp .Add) rCat:=by
 intro pins s σ H x y v u Q I rx ry h
 obtain ⟨l,b,xs,zs,rfl,rfl,hH,hB,hz,q⟩:=h
 cases rx
 cases ry
 obtain ⟨z,its,n,r,hl,e⟩:=I.lstM hH
 obtain ⟨z2,its2,n2,r2,hl2,e2⟩:=I.lstM hB
 refine PySem.P.add_list e e2 ?_ (by rw [zM,zM];omega)
 have ea:its.toArray++its2.toArray=(its++its2).toArray:=by simp
 rw [ea]
 exact ⟨.ref _,_,I.lnew (t':=s.toks) (r.append r2) (by rw [zE];omega),rfl,q _ I.fresh⟩
end
section
variable {prog:Program}{w:World}{A:Around}{E:Value->Shared->Prop}{s:Shared}
set_option maxRecDepth 100000 in
end
section
variable {X:Cx}
end
end L2
namespace Att
open PySem PySem.W PySem.Calls PyProof.Rows
theorem ints_of_wellAll {P:Params}{h:Heap}:∀ (ns:List Int) (vs:List Value),WellAll P h vs (ns.map WData.int)->IntsAre vs ns:=by
 intro ns
 induction ns with
 | nil=>
  intro vs w
  rw [yb] at w
  cases w
  exact .nil
 | cons n ns ih=>
  intro vs w
  rw [zm] at w
  cases w with
  | cons a b=>
   cases a
   exact .cons _ _ (ih _ b)
theorem script_of {l:OpenLaw}{n:Nat} (hn:l.most=some n) {P:Params}{h:Heap}{args:List WData}{vals:List Value}
  (hpre:l.row.toRowW.claim.pre args=true) (hwl:WellAll P h vals args) :
  ∃ a vs ns,vals=[Value.ref a]/\args=[WData.list (ns.map WData.int)]/\h.get? a=some { cls:=.type "list", data:=.seq vs.toArray }/\IntsAre vs ns/\ns.length<=n:=by
 have hsh:WShape.hasAll [] args [.list .int]=true:=(pre_splitW hpre).1
 have hc:l.pre.holds [] { args:=args }=true:=(pre_splitW hpre).2
 obtain ⟨d,r,rfl,h1,h2⟩:=hasAllW_cons hsh
 obtain rfl:=hasAllW_nil h2
 obtain ⟨xs,rfl,h3⟩:=hasW_list h1
 obtain ⟨ns,rfl⟩:=items_int h3
 have hlen:ns.length<=n:=by
  unfold OpenLaw.pre at hc
  have h4:(WTm.not (.lt (.lit (.int (n:Int))) (.len (.arg 0)))).holds [] { args:=[.list (ns.map .int)] }=true:=by
   have h4:=(holds_andW hc).1
   rw [hn] at h4
   exact h4
  have h5:=condW_of h4 (w_not (w_lt w_lit (w_len_list (w_arg rfl))))
  rw [zA] at h5
  refine Nat.le_of_not_lt λq=>?_
  have q':(n:Int) < ((ns.length:Nat):Int):=by omega
  first
   | (rw [decide_eq_true q'] at h5;exact absurd h5 (by decide))
   | (simp at h5;omega)
 cases hwl with
 | cons w1 w2=>
  cases w2
  cases w1 with
  | list ho hall=>exact ⟨_,_,ns,rfl,rfl,ho,ints_of_wellAll ns _ hall,hlen⟩
theorem post_true (l:OpenLaw) (args:List WData):l.row.toRowW.claim.post args (.bool true) args=true:=
 postW_of (r:=l.row.toRowW) (X:=(true == true))
  (show WShape.has [] (.bool true) .bool=true by first | rfl | decide | simp [WShape.has,WShape.arms,WShape.armsAll])
  (show (WTm.eq .res (.lit (.bool true))).value [] { args:=args,res:=some (.bool true),after:=args }=some (.bool (true == true)) from w_eq_bool (w_res rfl) w_lit) rfl
theorem attach_call {l:OpenLaw}{n:Nat}{q:Program}{loose:List Str}{XP:(Str->Option Value)->Heap->Prop}{YP:World->Heap->Prop}{d:DefRec}
  (hn:l.most=some n) (hdf:d.params.defaults=[])
  (call:∀ (w:World) (s₀ s₁:Shared) (mg mb:Str->Option Value) (fa:Addr) (o:Obj) (pm cd doc:Value) (a:Addr) (vs:List Value) (ns:List Int),
   Ground q loose [] XP w s₀ mg mb s₁.heap->YP w s₁.heap ->
   s₁.heap.get? fa=some o->o.data=.func (docDef d.name d.params d.body d.scope pm cd doc)->s₁.heap.CodeRec cd d.name->mg d.name=some (.ref fa) ->
   s₁.heap.get? a=some { cls:=.type "list", data:=.seq vs.toArray }->IntsAre vs ns->ns.length<=n->s₁.gens=#[] ->
   codeAny (model l.prog w) callerA (.call (.ref fa) ⟨[.ref a],[]⟩) (λr s'=>r=.ok (.ret (.bool true))/\OldK s₁.heap s'.heap/\s'.os=s₁.os/\AllBare s'.gens) s₁) :
  WalkO q loose XP YP l.row.toRowW d [] (λf vs=>PySem.call f vs):=by
 intro w s₀ s₁ mg mb G Y fa o pm cd doc dV kV ho hd hcd hD hmg hg args vals as hpre hlay hrd hwl hlo
 obtain rfl:dV=.none:=Dflts.none hD hdf
 obtain rfl:kV=.none:=Dflts.noKw hD
 obtain ⟨a,vs,ns,rfl,rfl,hobj,hints,hlen⟩:=script_of hn hpre hwl
 refine enter_call (codeAny_mono (call w s₀ s₁ mg mb fa o pm cd doc a vs ns G Y ho (fd_plain hd) hcd hmg hobj hints hlen hg) λr s' hq=>?_)
 obtain ⟨rfl,h2,h3,h4⟩:=hq
 exact ⟨.inl ⟨.bool true,.bool true,[],rfl,λ_=>rfl,.bool true,post_true l _,λ_=>⟨List.Pairwise.nil,λ_ hm=>(nomatch hm)⟩⟩,h2,h3,h4⟩
section
variable {prog:Program}{w:World}{A:Around}{E:Value->Shared->Prop}{s:Shared}{K:Frag}
def ledger (h:Heap) (L d:Addr):List (Addr×Obj):=(List.range h.objs.size).filterMap λa=>if a=L\/a=d then none else (h.get? a).map λo=>(a,o)
end
end Att
namespace L2
open PySem PySem.Spec PyProof.Rows
theorem vals_ints:∀ {vs:List Value}{ns:List Int},IntsAre vs ns->Vals (ns.map V.int) vs
 | _,_,.nil=>.nil
 | _,_,.cons n t h=>.cons ⟨t,rfl⟩ (vals_ints h)
end L2
namespace L2
open PySem PySem.Spec PyProof.Rows
end L2
namespace L2
open PySem PySem.Spec PyProof.Rows
def inClass (s:Stmt) (j:Nat):Stmt:=match s with
 | .ClassDef _ _ _ body _ _ _ _ _ _ _=>body.getD j (.Pass ⟨0,0,0,0⟩)
 | _=>.Pass ⟨0,0,0,0⟩
def defArgs (s:Stmt):Arguments:=match s with
 | .FunctionDef _ a _ _ _ _ _ _ _ _=>a
 | _=>{ posonlyargs:=[],args:=[],vararg:=none,kwonlyargs:=[],kw_defaults:=[],kwarg:=none,defaults:=[] }
def defBody (s:Stmt):List Stmt:=match s with
 | .FunctionDef _ _ b _ _ _ _ _ _ _=>b
 | _=>[]
def defScope (s:Stmt):Scope:=match s with
 | .FunctionDef _ _ _ _ _ _ sc _ _ _=>sc
 | _=>{ kind:=.function,names:=[],isGenerator:=false,isCoroutine:=false }
abbrev CX0:CXT:=λ_ _ _ _ _ _=>False
abbrev E0:XK:=λ_ _ _=>False
theorem pass0 {X:Cx}:Passes CX0 X E0:=λ_ _ _ _ _ _ _ h=>h.elim
structure Fun (K:PySem.W.Frag) (x qual:Str) (st:Stmt) (f:Addr) (fd:FuncData):Prop where
 ex:∃ (oc:Value) (od:Option Addr) (kV doc pm:Value) (an:Option Addr) (cdv ct:Value) (osl:Array (Option Value)),
  fd=xP x qual (defArgs st) (defBody st) (defScope st) .none kV doc pm an cdv ct/\K.lookup f=some ⟨oc,od,.func fd,osl⟩/\PySem.W.codeIn K cdv qual=true
 kp:zG K (.ref f)=true
section
variable {P:Program}{w:World}{K:PySem.W.Frag}{mg:Str->Option Value}{base:Heap}
theorem Fun.ok {x qual:Str}{st:Stmt}{f:Addr}{fd:FuncData}{N ps:List Str}{k:Nat}{sp:Sp} (F:Fun K x qual st f fd) (S:FnScope N ps (defScope st)) (len:∀ vs H Q E,sp vs H Q E->vs.length=ps.length)
  (hbody:∀ (cdv:Value) (A:Around) (outer:List Env) (s:Shared) (H:Hp) (vs:List V) (Q:VK) (E:XK),Room k (A.deeper (envOfC qual (defScope st) s.heap.objs.size f cdv))->sp vs H Q E ->
   ∃ t,PSs (cxOf CX0 P w K mg base N qual (defScope st) f cdv A outer s H E).nox (defBody st) t/\t { nx:=λ_ H'=>Q .non H',rt:=Q } (start N vs) H):FnOk P w K mg base CX0 (k + 1) f fd ps sp:=by
 obtain ⟨oc,od,kV,doc,pm,an,cdv,ct,osl,rfl,lk,hcd⟩:=F.ex
 refine fn_of lk hcd S len λA outer s H vs Q E hr hsp=>?_
 obtain ⟨t,h,q⟩:=hbody cdv A outer s H vs Q E hr hsp
 exact ⟨t,h.nox,q⟩
theorem Fun.binds {x qual:Str}{st:Stmt}{f:Addr}{fd:FuncData}{ps:List Str} (F:Fun K x qual st f fd)
  (h:∀ (kV doc pm:Value) (an:Option Addr) (cdv ct:Value) (us:List Value),us.length=ps.length->bindArgs (xP x qual (defArgs st) (defBody st) (defScope st) .none kV doc pm an cdv ct) ⟨us,[]⟩=pure (ps.zip us)):Binds K fd ps []:=by
 obtain ⟨oc,od,kV,doc,pm,an,cdv,ct,osl,rfl,lk,hcd⟩:=F.ex
 exact .all (h kV doc pm an cdv ct)
theorem fun_mk {x qual:Str}{st:Stmt}{f:Addr}{oc:Value}{od an:Option Addr}{osl:Array (Option Value)}{kV doc pm cdv ct:Value} (l:K.lookup f=some ⟨oc,od,.func (xP x qual (defArgs st) (defBody st) (defScope st) .none kV doc pm an cdv ct),osl⟩)
  (c:PySem.W.codeIn K cdv qual=true) (k:zG K (.ref f)=true):Fun K x qual st f (xP x qual (defArgs st) (defBody st) (defScope st) .none kV doc pm an cdv ct):=⟨⟨oc,od,kV,doc,pm,an,cdv,ct,osl,rfl,l,c⟩,k⟩
end
section
variable {X:Cx}
theorem pv (i:Nat) {x:Str}{pos:Pos} (hN:X.N[i]?=some x:=by rfl) (hv:Vis X.env.scope x:=by first | exact Or.inl rfl | exact Or.inr (Or.inl rfl) | exact Or.inr (Or.inr rfl)) (hd:(x == ("__debug__" : Str))=false:=by decide)
  (hcd:(x == ("__classdict__" : Str))=false:=by decide):PE X (.Name x pos) (tVar i):=pe_var hN hv hd hcd
end
theorem iteF {A B:Prop} (h:B):if false=true then A else B:=by
 rw [if_neg zJ]
 exact h
theorem iteNS {c A B:Prop} [Decidable c] (hc:c) (h:B):if (!decide c)=true then A else B:=by
 rw [decide_eq_true hc]
 exact iteF h
def Same (H H':Hp):Prop:=∀ b o,H b=some o->H' b=some o
theorem Same.refl (H:Hp):Same H H:=λ_ _ h=>h
theorem Same.trans {H H1 H2:Hp} (a:Same H H1) (b:Same H1 H2):Same H H2:=λc o h=>b c o (a c o h)
theorem Same.free {H H':Hp} (e:Same H H') {l:Addr} (h:H' l=Option.none):H l=Option.none:=by
 cases q:H l with
 | none=>rfl
 | some o=>
  rw [e l o q] at h
  cases h
theorem Same.seq {K:PySem.W.Frag}{H H':Hp}{a:Addr}{xs:List V} (e:Same H H') (h:SqL K H a xs):SqL K H' a xs:=by
 rcases h with (h | ⟨o,h⟩) | h
 ·exact .inl (.inl (e _ _ h))
 ·exact .inl (.inr ⟨o,e _ _ h⟩)
 ·exact .inr h
end L2
namespace L2
open PySem PySem.Spec PyProof.Rows
theorem loop_comp {prog:Program}{w:World}{A:Around}{R:Result->Shared->Prop}{s:Shared}{elt target iter:Expr}{ifs:List Expr}{scope:Scope}{pos:Pos}{it acc:Value}{env:Env} (I:Nat->Shared->Prop)
  (turn:∀ n s,I n s->wpAny (model prog w) A (pyNext it) (λr s₁=>match r with
   | none=>R (.ok .next) s₁
   | some v=>wpAny (model prog w) A (letOwnedTupleGo target it v) (λ_ s₁'=>wpAny (model prog w) A (assign target env v) (λ_ s₂=>
     wpAny (model prog w) A (forIn ifs true λc r=>if r=true then do let ok <- isTrue c env (eval c env);pure (ForInStep.yield ok) else pure (ForInStep.yield r)) (λok s₃=>
      if ok=true then wpAny (model prog w) A (eval elt env) (λx s₄=>
       wpAny (model prog w) A (call (.builtin "list.append") [acc,x]) (λ_ s₅=>∃ m,m < n/\I m s₅) (λ_ _=>False) s₄) (λ_ _=>False) s₃
      else ∃ m,m < n/\I m s₃) (λ_ _=>False) s₂) (λ_ _=>False) s₁') (λ_ _=>False) s₁) (λ_ _=>False) s)
  (n:Nat) (h:I n s) :
  codeAny (model prog w) A (.compLoop (.ListComp elt [⟨target,iter,ifs,0⟩] scope pos) 0 it acc env) R s:=by
 refine codeAny_loop rfl I (λn s hI=>?_) n h
 show wpAny _ A ((compTurn (.ListComp elt [⟨target,iter,ifs,0⟩] scope pos) 0 it acc env).onRaise (λx=>do noteFrame x env;theTreesLotGoes x)) _ _ s
 refine wpAny_noted ?_
 rw [compTurn_list]
 refine wpAny_bind (wpAny_standAt (wpAny_bind (wpAny_mono (turn n s hI) (λr s₁ h₁=>?_) λ_ _ h'=>h'.elim)))
 cases r with
 | none=>exact wpAny_pure h₁
 | some v=>
  refine wpAny_bind (wpAny_mono h₁ (λ_ s₁' h₁'=>?_) λ_ _ h'=>h'.elim)
  refine wpAny_bind (wpAny_mono h₁' (λ_ s₂ h₂=>wpAny_bind (wpAny_mono h₂ (λok s₃ h₃=>?_) λ_ _ h'=>h'.elim)) λ_ _ h'=>h'.elim)
  cases ok with
  | false=>exact wpAny_pure ⟨rfl,h₃⟩
  | true=>
   exact wpAny_bind (wpAny_bind (wpAny_mono h₃ (λx s₄ h₄=>wpAny_bind (wpAny_mono h₄ (λ_ s₅ h₅=>wpAny_pure (wpAny_pure ⟨rfl,h₅⟩)) λ_ _ h'=>h'.elim)) λ_ _ h'=>h'.elim))
def clOf (names:List (Str×NameKind)) (env:Env) (cs:List (Str×Addr)):List (Str×Addr):=
 names.foldl (λcs p=>if p.2=.free then (match env.cells.lookup p.1 with | some c=>(p.1,c)::cs | none=>cs) else cs) cs
theorem closure_loop {env:Env}:∀ (names:List (Str×NameKind)) (cs:List (Str×Addr)),(∀ y∈names,y.2=.free->∃ c,env.cells.lookup y.1=some c) ->
  (forIn names cs λx r=>(if (x.2 == NameKind.free)=true then do let a <- cellOf env x.1;pure (ForInStep.yield ((x.1,a)::r)) else pure (ForInStep.yield r):Sem _))=pure (clOf names env cs)
 | [],cs,_=>by simp [clOf]
 | (n,k)::r,cs,h=>by
  have ih:=λcs=>closure_loop r cs λy hy=>h y (zf _ hy)
  simp only [List.forIn_cons]
  by_cases hk:k=.free
  ·subst hk
   obtain ⟨c,e⟩:=h (n,.free) z4 rfl
   have e':env.cells.lookup n=some c:=e
   have ec:cellOf env n=pure c:=by unfold cellOf;rw [e']
   simp only [beq_self_eq_true,if_true,ec,pure_bind]
   rw [ih]
   simp [clOf,e']
  ·have hb:(k == NameKind.free)=false:=by simpa using hk
   simp only [hb,zb,if_false,pure_bind]
   rw [ih]
   simp [clOf,hk]
theorem closureFor_eq {scope:Scope}{env:Env} (h:∀ y∈scope.names,y.2=.free->∃ c,env.cells.lookup y.1=some c):closureFor scope env=pure (clOf scope.names env []):=by
 unfold closureFor
 have:=closure_loop scope.names [] h
 simp only [bind_pure]
 exact this
theorem clOf_mem {env:Env}:∀ (names:List (Str×NameKind)) (cs:List (Str×Addr)) (x:Str) (c:Addr),(x,c)∈clOf names env cs->(x,c)∈cs\/env.cells.lookup x=some c
 | [],cs,x,c,h=>.inl h
 | (n,k)::r,cs,x,c,h=>by
  have h':(x,c)∈clOf r env (if k=.free then (match env.cells.lookup n with | some c=>(n,c)::cs | none=>cs) else cs):=h
  rcases clOf_mem r _ x c h' with q | q
  ·split at q
   ·cases e:env.cells.lookup n with
    | none=>rw [e] at q;exact .inl q
    | some d=>
     rw [e] at q
     rcases zH.mp q with z | z
     ·cases z;exact .inr e
     ·exact .inl z
   ·exact .inl q
  ·exact .inr q
theorem clOf_keep {env:Env}:∀ (names:List (Str×NameKind)) (cs:List (Str×Addr)) (x:Str),(∃ c,(x,c)∈cs)->∃ c,(x,c)∈clOf names env cs
 | [],cs,x,h=>h
 | (n,k)::r,cs,x,⟨c,h⟩=>by
  refine clOf_keep r _ x ?_
  dsimp only
  split
  ·split
   ·exact ⟨c,zf _ h⟩
   ·exact ⟨c,h⟩
  ·exact ⟨c,h⟩
theorem clOf_has {env:Env}:∀ (names:List (Str×NameKind)) (cs:List (Str×Addr)) (x:Str),(x,NameKind.free)∈names->(∃ c,env.cells.lookup x=some c)->∃ c,(x,c)∈clOf names env cs
 | [],_,_,h,_=>by simp at h
 | (n,k)::r,cs,x,h,⟨c,e⟩=>by
  rcases zH.mp h with z | z
  ·have e1:x=n:=congrArg Prod.fst z
   have e2:NameKind.free=k:=congrArg Prod.snd z
   subst e1 e2
   refine clOf_keep r _ x ⟨c,?_⟩
   dsimp only
   rw [if_pos rfl,e]
   exact z4
  ·exact clOf_has r _ x z ⟨c,e⟩
theorem lookup_of_mem {β:Type}:∀ (l:List (Str×β)) (x:Str) (c:β),(x,c)∈l->∃ d,l.lookup x=some d
 | (n,d)::r,x,c,h=>by
  cases hx:x == n with
  | true=>exact ⟨d,by simp [ye,hx]⟩
  | false=>
   simp only [ye,hx]
   rcases zH.mp h with z | z
   ·cases z;simp at hx
   ·exact lookup_of_mem r x c z
theorem wM {names:List (Str×NameKind)}{env:Env}{x:Str}{c:Addr} (h:(clOf names env []).lookup x=some c):env.cells.lookup x=some c:=by
 rcases clOf_mem names [] x c (yJ h) with q | q
 ·simp at q
 ·exact q
theorem clOf_some {names:List (Str×NameKind)}{env:Env}{x:Str}{c:Addr} (h:(x,NameKind.free)∈names) (e:env.cells.lookup x=some c):(clOf names env []).lookup x=some c:=by
 obtain ⟨d,hd⟩:=clOf_has names [] x h ⟨c,e⟩
 obtain ⟨d',hd'⟩:=lookup_of_mem _ _ _ hd
 have:=wM hd'
 rw [e] at this
 cases this
 exact hd'
theorem lookup_relabel_free {env:Env}:∀ {names:List (Str×NameKind)}{x:Str},names.lookup x=some .free ->
  (names.map λ(n,k)=>if (k == NameKind.free && env.scope.kind == .function && env.kindOf n == some .cell) then (n,NameKind.cell) else (n,k)).lookup x=some .cell \/
  (names.map λ(n,k)=>if (k == NameKind.free && env.scope.kind == .function && env.kindOf n == some .cell) then (n,NameKind.cell) else (n,k)).lookup x=some .free
 | [],_,h=>by simp at h
 | (n,k)::r,x,h=>by
  have ih:=@lookup_relabel_free env r x
  show yr x ((if (k == NameKind.free && env.scope.kind == .function && env.kindOf n == some .cell)=true then (n,NameKind.cell) else (n,k))::_)=_\/yr x ((if (k == NameKind.free && env.scope.kind == .function && env.kindOf n == some .cell)=true then (n,NameKind.cell) else (n,k))::_)=_
  by_cases hc:(k == NameKind.free && env.scope.kind == .function && env.kindOf n == some .cell)=true
  ·rw [if_pos hc]
   cases hx:x == n with
   | true=>left;simp [ye,hx]
   | false=>
    simp only [ye,hx] at h ⊢
    exact ih h
  ·rw [if_neg hc]
   cases hx:x == n with
   | true=>
    simp only [ye,hx] at h
    cases h
    right;simp [ye,hx]
   | false=>
    simp only [ye,hx] at h ⊢
    exact ih h
structure CompScope (own:List Str) (caps:List Nat) (N:List Str) (sc scope:Scope):Prop where
 kind:scope.kind=.function
 nocell:∀ y∈scope.names,y.2≠.cell
 loc:∀ y∈scope.names,y.2=.local->scope.names.lookup y.1=some .local
 fr:∀ y∈scope.names,y.2=.free->sc.names.lookup y.1=some .cell\/sc.names.lookup y.1=some .free
 cap:∀ i∈caps,i < N.length/\scope.names.lookup ((N[i]?).getD Str.empty)=some .free
def cxComp (X:Cx) (own:List Str) (caps:List Nat) (scope:Scope) (s:Shared) (H:Hp) (fp:List Addr) (C:Addr):Cx:=
 { X with N:=own++caps.map (λi=>(X.N[i]?).getD Str.empty),s₀:=s,H₀:=H,env:=compEnvC scope (clOf scope.names X.env []) C X.env,outer:=X.stack,ex:=fp,fn:=λ_=>false,pn:=[],xe:=λ_ _=>False }
def tau0 (n:Nat) (caps:List Nat) (σ:St):St:=List.replicate n none++caps.map λi=>(σ[i]?).join
section
variable {X:Cx}{pins:List (Addr×Obj)}{σ:St}{H:Hp}{s:Shared}
theorem free_of_kind {scope:Scope}{env:Env} (nc:∀ y∈scope.names,y.2≠.cell) {x:Str}{k:NameKind} (hk:k=.cell\/k=.free) (h:(relabel scope env).names.lookup x=some k):(x,NameKind.free)∈scope.names:=by
 have hm:=yJ h
 obtain ⟨⟨n,k0⟩,hy,e⟩:=zQ.mp hm
 dsimp only at e
 split at e
 ·rename_i hc
  simp only [yd,beq_iff_eq] at hc
  have e1:n=x:=congrArg Prod.fst e
  subst e1
  rw [hc.1.1] at hy
  exact hy
 ·cases e
  rcases hk with z | z
  ·subst z;exact absurd rfl (nc _ hy)
  ·subst z;exact hy
theorem inv_comp {own:List Str}{caps:List Nat}{scope:Scope}{fp:List Addr}{D C:Addr}{o:Obj} {h1:Heap}{tk:Nat} (I:Inv X pins σ H s) (S:CompScope own caps X.N X.env.scope scope)
  (f:∀ b∈fp,FpOk X pins H b) (fl:∀ b∈fp,b < s.heap.objs.size) (hD:s.heap.objs.size<=D) (hC:s.heap.objs.size<=C) (hDC:D≠C) (keep:∀ b o,s.heap.get? b=some o->h1.get? b=some o)
  (hns:h1.Ns C λ_=>none) (hacc:h1.get? D=some o) (ho:∀ v,o.data≠.cell v) :
  Inv (cxComp X own caps scope s H fp C) [(D,o)] (tau0 own.length caps σ) H { s with heap:=h1,toks:=tk }:=by
 have sub:∀ b∈frs X.stack,b < s.heap.objs.size:=λb hb=>by
  rcases zH.mp (I.stkSub b hb) with e | hb
  ·rw [e];exact I.lt
  ·by_cases q:b < s.heap.objs.size
   ·exact q
   ·exact absurd hb (I.nofs (Nat.le_of_not_lt q))
 refine ⟨⟨I.ok.mod,S.kind,I.ok.glob,I.ok.blt,hC,λx y c h1 h2=>I.ok.inj x y c (wM h1) (wM h2),λx hx=>?_,λx c z _=>absurd (show false=true from z) zJ,I.ok.hd,I.ok.frames,.inl rfl,
   λb hb=>⟨zU (zR (fl b hb) hC),λx c e=>(f b hb).2.2.2.2.1 x c (wM e)⟩,I.bs,z8 I.ok.bsz I.sz,λb ob e hb=>?_,λb hb hs=>?_,I.stack,I.stkFree⟩,
  rfl,I.bare,Un.kept keep,⟨_,hns,λi x v e1 e2 e3=>?_⟩,λx c e=>?_,I.hok.fresh hC,λx c e=>I.freeC x c (wM e),λp hp=>?_,I.hok.kept keep,?_⟩
 ·have hm:(x,NameKind.free)∈scope.names:=by
   rcases hx with hx | hx
   ·exact free_of_kind S.nocell (.inl rfl) hx
   ·exact free_of_kind S.nocell (.inr rfl) hx
  obtain ⟨c,hc⟩:=I.ok.has x (S.fr _ hm rfl)
  exact ⟨c,clOf_some hm hc⟩
 ·rcases (f b hb).2.2.2.1 with z | z
  ·exact I.ok.noex b ob e z
  ·exact absurd (zR (Heap.lt_size e) (z8 I.ok.bsz z)) (yF _)
 ·rcases zH.mp (I.stkSub b hs) with e | e
  ·exact (f b hb).2.1 e
  ·exact (f b hb).2.2.1 e
 ·have e2':(List.replicate own.length (none:Option V)++caps.map λi=>(σ[i]?).join)[i]?=some (some v):=e2
  have e1':(own++caps.map (λi=>(X.N[i]?).getD Str.empty))[i]?=some x:=e1
  have hi:own.length<=i:=by
   by_cases q:i < own.length
   ·rw [zV (by simpa using q),List.getElem?_replicate,if_pos q] at e2'
    cases e2'
   ·exact Nat.le_of_not_lt q
  rw [zY (by simpa using hi),List.length_replicate,zS] at e2'
  rw [zY hi,zS] at e1'
  cases ek:caps[i - own.length]? with
  | none=>rw [ek] at e1';cases e1'
  | some k=>
   rw [ek] at e1' e2'
   have ex:(X.N[k]?).getD Str.empty=x:=Option.some.inj e1'
   have ev:(σ[k]?).join=some v:=Option.some.inj e2'
   have ev':σ[k]?=some (some v):=by
    cases q:σ[k]? with
    | none=>rw [q] at ev;cases ev
    | some y=>rw [q] at ev;exact congrArg some ev
   obtain ⟨hl,hf⟩:=S.cap k (zC ek)
   have eN:X.N[k]?=some x:=by
    rw [zL hl] at ex ⊢
    exact congrArg some ex
   rw [ex] at hf
   have hm:=yJ hf
   have hfr:=S.fr _ hm rfl
   obtain ⟨m,_,hl'⟩:=I.loc
   obtain ⟨u,ru,lk⟩:=hl' k x v eN ev' (.inr hfr)
   refine ⟨u,ru,.inr ⟨lookup_relabel_free hf,?_⟩⟩
   rcases lk with ⟨kl,_⟩ | ⟨_,c,hc,ob,hob,hd⟩
   ·have kl':X.env.scope.names.lookup x=some .local:=kl
    rcases hfr with z | z
    ·have z':X.env.scope.names.lookup x=some .cell:=z
     rw [z'] at kl';cases kl'
    ·have z':X.env.scope.names.lookup x=some .free:=z
     rw [z'] at kl';cases kl'
   ·exact ⟨c,clOf_some hm hc,ob,keep c ob hob,hd⟩
 ·obtain ⟨v,ob,hob,hd⟩:=I.cell x c (wM e)
  exact ⟨v,ob,keep c ob hob,hd⟩
 ·have e:p=(D,o):=by simpa using (show p∈[]++[(D,o)] from hp)
  subst e
  refine ⟨hacc,I.hok.fresh hD,hDC,λz=>?_,ho⟩
  exact absurd (zR (sub D z) hD) (yF _)
 ·show (tau0 own.length caps σ).length=(own++caps.map (λi=>(X.N[i]?).getD Str.empty)).length
  simp [tau0]
def PTs (X:Cx) (ifs:List Expr) (t:TT):Prop:=
 ∀ (pins:List (Addr×Obj)) (s:Shared) (σ:St) (H:Hp) (Q:Bool->Hp->Prop),Inv X pins σ H s->t σ H Q ->
  wpAny (model X.prog X.w) X.A (forIn ifs true λc r=>if r=true then do let ok <- isTrue c X.env (eval c X.env);pure (ForInStep.yield ok) else pure (ForInStep.yield r)) (TP X pins σ Q) X.xe s
def tYes:TT:=λ_ H Q=>Q true H
theorem pts_nil:PTs X [] tYes:=λ_ s σ H Q I h=>wpAny_tests_nil ⟨H,I,h⟩
theorem pts_one {c:Expr}{t:TT} (h:PT X c t):PTs X [c] t:=λpins s σ H Q I q=>wpAny_tests_one (h pins s σ H Q I q)
def tComp (n:Nat) (caps:List Nat) (wi:TI) (g:TG) (tc:TT) (te:TE):TE:=fun σ H Q=>wi σ H λJ H1=>∃ W:Nat->Nat->St->List V->Hp->Prop,(∃ m,W 0 m (tau0 n caps σ) [] H1)/\∀ i m τ acc H,W i m τ acc H ->
 (J.stop i H/\acc.length<=sizeLine/\∀ p,H p=none->Q (.ref p) (upd H p (.lst acc))) \/
 (J.go i H/\acc.length < sizeLine/\∀ x H',J.yld i H x H'->g x τ H' fun τ2 H2=>tc τ2 H2 λb H3=>if b=true then te τ2 H3 λy H4=>∃ m',m' < m/\W (i + 1) m' τ2 (acc++[y]) H4 else ∃ m',m' < m/\W (i + 1) m' τ2 acc H3)
theorem HOk.track {P:Program}{w:World}{H:Hp}{h:Heap}{a:Addr}{o:HO} (x:HOk P w H h) (hn:H a=none) (new:ObjOk P w (upd H a o) h a o):HOk P w (upd H a o) h:=λb u e=>by
 by_cases hb:b=a
 ·subst hb;rw [xW] at e;cases e;exact new
 ·rw [xb hb] at e
  exact (x b u e).stay (λc v _ q=>q) (λc q=>by rw [xb (xZ q hn)];exact q) λc xs q=>by rw [xb (xZ q hn)];exact q
theorem pe_comp {own:List Str}{caps:List Nat}{elt tg iter:Expr}{ifs:List Expr}{scope:Scope}{pos:Pos}{wi:TI}{g:TG}{tc:TT}{te:TE} (hc:X.calm=true) (S:CompScope own caps X.N X.env.scope scope) (hi:PI X tg iter wi)
  (hg:∀ s H fp C,PG (cxComp X own caps scope s H fp C) tg g) (ht:∀ s H fp C,PTs (cxComp X own caps scope s H fp C) ifs tc) (he:∀ s H fp C,PE (cxComp X own caps scope s H fp C) elt te)
  (hs:∀ x,foldedSetIterable iter X.env x=pure x:=by intro _;rfl):PE X (.ListComp elt [⟨tg,iter,ifs,0⟩] scope pos) (tComp own.length caps wi g tc te):=by
 intro pins s σ H Q I h
 rw [eval_ListComp]
 refine wpAny_comprehension_free (use:=none) (cl:=clOf scope.names X.env []) rfl hs (closureFor_eq λy hy e=>I.ok.has y.1 (S.fr y hy e)) S.kind S.loc
  (wpAny_mono (hi pins s σ H _ I h) (λv s1 h1=>thn h1 λitv s2 h2=>?_) λ_ _ e=>e)
 obtain ⟨it,fp,tn,J,H2,e,I2,T,st2,f2,W,⟨m0,w0⟩,turn⟩:=h2
 subst e
 refine wpAny_newObj_type (wpAny_newFunctionEnv S.nocell (by intro y hy;simp at hy) (λh₁ hns₁ hsb₁=>?_) S.kind)
 dsimp only at hns₁ hsb₁ ⊢
 generalize hH2:s2.heap.push { cls:=.type "list", dict:=none,data:=.seq ([]:List Value).toArray }=G at hns₁ hsb₁ ⊢
 have hG:G.objs.size=s2.heap.objs.size + 1:=by rw [<-hH2,Heap.size_push]
 have hDC:s2.heap.objs.size≠G.objs.size:=by rw [hG];exact zU (xH _)
 have hCle:s2.heap.objs.size<=G.objs.size:=by rw [hG];exact yu _
 have below:∀ b,b < s2.heap.objs.size->b≠G.objs.size:=λb hb=>by rw [hG];exact zU (yY hb)
 have old:∀ b o,s2.heap.get? b=some o->h₁.get? b=some o:=λb o e=>hsb₁.extBut b o (below b (Heap.lt_size e)) (Heap.get?_push_of_some _ (hH2 ▸ Heap.get?_push_of_some _ e))
 have hacc:h₁.get? s2.heap.objs.size=some { cls:=.type "list", dict:=none,data:=.seq ([]:List Value).toArray }:=hsb₁.extBut _ _ hDC (Heap.get?_push_of_some _ (hH2 ▸ Heap.get?_push_size _ rfl))
 have fl:∀ b∈fp,b < s2.heap.objs.size:=λb hb=>let ⟨o,e,_⟩:=T.obj _ _ st2 b hb;Heap.lt_size e
 have hns₁':h₁.Ns G.objs.size λ_=>none:=hns₁
 have I4:=inv_comp (tk:=s2.toks + ([]:List (Str×Value)).length) I2 S f2 fl (zD _) hCle hDC old hns₁' hacc (λv z=>nomatch z)
 have st4:tn 0 h₁:=T.keep _ _ _ st2 λb _ o e=>old b o e
 generalize hs4:({ s2 with heap:=h₁,toks:=s2.toks + ([]:List (Str×Value)).length }:Shared)=s4 at I4 ⊢
 have e4:s4.heap=h₁:=by rw [<-hs4]
 rw [<-e4] at st4
 -- the loop
 have loop:codeAny (model X.prog X.w) X.A (.compLoop (.ListComp elt [⟨tg,iter,ifs,0⟩] scope pos) 0 (.ref it) (.ref s2.heap.objs.size) (compEnvC scope (clOf scope.names X.env []) G.objs.size X.env))
   (compPost (model X.prog X.w) X.A X.xe none (EP X pins σ Q) (.ref s2.heap.objs.size) G.objs.size) s4:=by
  let Y:=cxComp X own caps scope s2 H2 fp G.objs.size
  have stat:∀ {H':Hp}{its:List Value}{n:Nat},(∀ b∈fp,H' b=none)->∀ b∈fp,FpOk Y [(s2.heap.objs.size,({ cls:=.type "list", data:=.seq its.toArray n }:Obj))] H' b:=λ{H' its n} hn b hb=>by
   refine ⟨hn b hb,below b (fl b hb),λz=>?_,.inl hb,λx c e=>(f2 b hb).2.2.2.2.1 x c (wM e),λp hp=>?_⟩
   ·rcases zH.mp (I2.stkSub b z) with e | e
    ·exact (f2 b hb).2.1 e
    ·exact (f2 b hb).2.2.1 e
   ·have e:p=(s2.heap.objs.size,({ cls:=.type "list", data:=.seq its.toArray n }:Obj)):=by simpa using (show p∈[]++[_] from hp)
    subst e
    exact yN (fl b hb)
  refine loop_comp (λn s'=>∃ i τ acc its k H',Inv Y [(s2.heap.objs.size,({ cls:=.type "list", data:=.seq its.toArray k }:Obj))] τ H' s'/\tn i s'.heap/\(∀ b∈fp,H' b=none)/\Vals acc its/\W i n τ acc H') ?_ m0
   ⟨0,_,[],[],0,H2,I4,st4,λb hb=>(f2 b hb).1,.nil,w0⟩
  rintro n s5 ⟨i,τ,acc,its,k,H5,I5,st5,fr5,rv5,w5⟩
  rcases turn i n τ acc H5 w5 with ⟨stop,hz,q⟩ | ⟨go,hz,step⟩
  ·refine thn (T.done Y rfl rfl rfl hc i _ s5 τ H5 (λ_ _=>False) I5 (stat fr5) st5 stop) λr s6 ⟨hr,I6⟩=>?_
   subst hr
   obtain ⟨eD,nD,_,_,_⟩:=I6.pin _ (zP _ (zF.mpr rfl))
   obtain ⟨m6,hm6,_⟩:=I6.loc
   refine ⟨m6,hm6,λh' hsb=>?_⟩
   have hC6:H5 G.objs.size=none:=I6.free
   have eD':h'.get? s2.heap.objs.size=some { cls:=.type "list", data:=.seq its.toArray k }:=hsb.extBut _ _ hDC eD
   have hok6:HOk X.prog X.w H5 h':=λb u e=>(I6.hok b u e).stay (λc v hcv qv=>hsb.extBut c v (by
     rcases hcv with z | z
     ·subst z;exact xZ e hC6
     ·exact xZ z hC6) qv) (λ_ q=>q) λ_ _ q=>q
   refine ⟨.ref s2.heap.objs.size,_,?_,rfl,q _ nD⟩
   have ub:=I6.base
   refine I2.call' (ch:=fp) (s':={ s6 with heap:=h' }) I6.os ⟨λb o e n' hb hx=>hsb.extBut b o (below b (Heap.lt_size e)) (ub.keep b o e n' hb hx),λb o e n' hb hx=>?_,λb o e n' hx=>?_,λb o e hx=>?_,λb xs e=>?_,λb o u e=>?_,λb ps e=>?_⟩
    (hok6.track nD ⟨hz,its,k,rv5,eD'⟩) I6.bare λb hb=>⟨(f2 b hb).2.2.2.1,(f2 b hb).2.1,(f2 b hb).2.2.2.2.1,(f2 b hb).2.2.2.2.2⟩
   ·obtain ⟨sl,e'⟩:=ub.slot b o e n' hb hx
    exact ⟨sl,hsb.extBut b _ (below b (Heap.lt_size e)) e'⟩
   ·rw [xb (zU (Heap.lt_size e))]
    exact ub.free b o e n' hx
   ·obtain ⟨o',e'⟩:=ub.there b o e hx
    exact ⟨o',hsb.extBut b _ (below b (Heap.lt_size e)) e'⟩
   ·have z:=ub.tups b xs e
    rw [xb (xZ z nD)];exact z
   ·have z:=ub.frzs b o u e
    rw [xb (xZ z nD)];exact z
   ·obtain ⟨more,z⟩:=ub.tbls b ps e
    exact ⟨more,by rw [xb (xZ z nD)];exact z⟩
  ·refine thn (T.item Y rfl rfl rfl hc i _ s5 τ H5 (λ_ _=>False) I5 (stat fr5) st5 go) λr s6 ⟨u,hr,h6⟩=>?_
   subst hr
   refine thn h6 λ_ s7 ⟨x,H7,I7,r7,y7,st7,fr7⟩=>?_
   have I7':=I7.pinned (stat fr7) (T.obj _ _ st7)
   refine thn (hg s2 H2 fp G.objs.size _ s7 τ H7 x u _ I7' r7 (step x H7 y7)) λ_ s8 ⟨τ8,H8,I8,q8⟩=>?_
   refine thn (ht s2 H2 fp G.objs.size _ s8 τ8 H8 _ I8 q8) λok s9 ⟨H9,I9,q9⟩=>?_
   -- the iterator's state behind the turn
   have back:∀ {s':Shared}{τ':St}{H':Hp},Inv Y ([(s2.heap.objs.size,({ cls:=.type "list", data:=.seq its.toArray k }:Obj))]++pinsAt fp s7.heap) τ' H' s'->(tn (i + 1) s'.heap/\∀ b∈fp,H' b=none):=λ{s' τ' H'} Ib=>
    ⟨T.keep _ _ _ st7 λb hb o e=>(Ib.pin (b,o) (zP _ (zP _ (wq hb e)))).1,λb hb=>by
     obtain ⟨o,e,d⟩:=T.obj _ _ st7 b hb
     exact (Ib.pin (b,o) (zP _ (zP _ (wq hb e)))).2.1⟩
   cases ok with
   | false=>
    obtain ⟨m',hm',w'⟩:=q9
    obtain ⟨sb,fb⟩:=back I9
    exact ⟨m',hm',i + 1,τ8,acc,its,k,H9,I9.unpinned,sb,fb,rv5,w'⟩
   | true=>
    refine thn (he s2 H2 fp G.objs.size _ s9 τ8 H9 _ I9 q9) λy s10 ⟨yv,H10,I10,r10,q10⟩=>?_
    obtain ⟨m',hm',w'⟩:=q10
    obtain ⟨sb,fb⟩:=back I10
    obtain ⟨eD,nD,neD,nfD,_⟩:=I10.pin (s2.heap.objs.size,_) (zP _ (zx _ (zF.mpr rfl)))
    have hl:acc.length=its.length:=rv5.length
    refine call_meets F.slot_list_append ⟨_,eD,rfl⟩ F.entry_list_append (F.args_list_append_2 _ _) (PySem.list_append s2.heap.objs.size its.toArray k y (by rw [zM];omega)) ⟨eD,?_⟩
    have q:=PySem.IsL.update eD (λa:Array Value=>a.push y)
    have Iu:Inv Y [] τ8 H10 s10:=I10.pins_of λp hp=>nomatch hp
    have It:=Iu.turned (t':=s10.toks) (it:=s2.heap.objs.size) (h':=s10.heap.update s2.heap.objs.size (Obj.mapSeq (λa:Array Value=>a.push y))) (λb o hb e=>(Heap.get?_update_other s10.heap _ (Ne.symm hb)).trans e) nD neD (.inr (zD _))
     (λx c e z=>by
      obtain ⟨v,ob,hob,_⟩:=I2.cell x c (wM e)
      exact absurd (Heap.lt_size hob) (by rw [z];exact yF _)) (λp hp=>nomatch hp)
    have It':=It.pins_of (pins':=[(s2.heap.objs.size,({ cls:=.type "list", data:=.seq (its++[y]).toArray (k + 1) }:Obj))]) λp hp=>by
     have e:p=_:=zF.mp hp
     subst e
     exact ⟨by simpa using q,nD,neD,nfD,λv z=>nomatch z⟩
    refine ⟨m',hm',i + 1,τ8,acc++[yv],its++[y],_,H10,It',T.keep _ _ _ sb λb hb o e=>(Heap.get?_update_other s10.heap _ (yN (fl b hb))).trans e,fb,rv5.append (.cons r10 .nil),w'⟩
 exact codeAny_compStart_list loop (T.self _ 0 s4 _ _ st4 loop)
end
end L2
namespace L2
open PySem PySem.Spec PyProof.Rows
open AutoSeq1 (wpAny_loadPart')
section
variable {prog:Program}{w:World}{A:Around}{E:Value->Shared->Prop}{s:Shared}
theorem nxT_in {it t:Addr}{i:Nat} {items}{x:Value}{Q:Value->Shared->Prop} (hit:s.heap.IsTupleIter it t i) (ht:s.heap.IsTuple t items) (hx:items[i]?=some x)
  (hQ:∀ h',h'.IsTupleIter it t (i + 1)->Heap.SameBut it s.heap h'->Q x { s with heap:=h' }):wpAny (model prog w) A (Builtin.SmallTypes.nextOf (.ref it)) Q E s:=by
 have ty:=hit.typeIs (s:=s)
 obtain ⟨o,ho,hc,hd⟩:=hit
 obtain ⟨ot,hot,_,n,hdt⟩:=ht
 have new:=hQ _ ⟨_,Heap.get?_update_self (Obj.mapFields (·.set! 1 (rawInt (i + 1)))) ho (Obj.isFreed_of_fields (Obj.data_mapFields hd _)),(Obj.cls_mapFields ..).trans hc,by rw [Obj.data_mapFields hd];simp [rawInt]⟩ (Heap.SameBut.update ..)
 unfold Builtin.SmallTypes.nextOf
 refine wpAny_bind (wpAny_callSpecial?_slot ty F.slot_tuple_iterator_next (wpAny_call_entry F.slot_tuple_iterator_next ty F.entry_tuple_iterator_next ?_ (F.args_tuple_iterator_next_1 _)))
 unfold Builtin.«tuple_iterator.__next__»
 wp_walk using wpAny_field ho hd (x:=.ref t) rfl,wpAny_field ho hd (x:=.int i 0) rfl,wpAny_seqItems hot hdt
 simp only [zh,hx]
 wp_walk using wpAny_setField ho hd (by simp)
 exact ⟨x,rfl,wpAny_pure new⟩
theorem nxT_out {it t:Addr}{i:Nat} {items}{Q:Value->Shared->Prop} (hh:A.handled=none) (hit:s.heap.IsTupleIter it t i) (ht:s.heap.IsTuple t items) (hx:items[i]?=none)
  (hE:∀ h' e,Heap.ExtBut it s.heap h'->(∃ o,h'.get? e=some o/\o.cls=.type "StopIteration")->E (.ref e) { s with heap:=h' }):wpAny (model prog w) A (Builtin.SmallTypes.nextOf (.ref it)) Q E s:=by
 have ty:=hit.typeIs (s:=s)
 obtain ⟨o,ho,hc,hd⟩:=hit
 obtain ⟨ot,hot,_,n,hdt⟩:=ht
 have hh1:A.in1.handled=none:=hh
 unfold Builtin.SmallTypes.nextOf
 refine wpAny_bind (wpAny_callSpecial?_slot ty F.slot_tuple_iterator_next (wpAny_call_entry F.slot_tuple_iterator_next ty F.entry_tuple_iterator_next ?_ (F.args_tuple_iterator_next_1 _)))
 unfold Builtin.«tuple_iterator.__next__»
 wp_walk using wpAny_field ho hd (x:=.ref t) rfl,wpAny_field ho hd (x:=.int i 0) rfl,wpAny_seqItems hot hdt
 simp only [zh,hx]
 wp_walk using wpAny_setField ho hd (by simp)
 simp only [raiseNew]
 refine wpAny_bind (wpAny_handled ?_)
 rw [hh1]
 exact wpAny_bind (wpAny_pure (wpAny_throw (hE _ _ (((Heap.SameBut.update ..).extBut.push _).push _) ⟨_,Heap.get?_push_size _ rfl,rfl⟩)))
end
theorem drawsT {prog:Program}{w:World}{A:Around} (hh:A.handled=none) (it t:Addr) (hne:t≠it) (items:Array Value) :
  Draws prog w A it [it,t] items.size (λi v=>items[i]?=some v) (λi h=>h.IsTupleIter it t i/\h.IsTuple t items) where
 live:=λ_ _ st=>let ⟨⟨o,ho,_⟩,_⟩:=st;⟨o,ho⟩
 frame:=λ_ _ _ st hk=>let ⟨⟨o,ho,r⟩,o',ho',r'⟩:=st;⟨⟨o,hk it (by simp) o ho,r⟩,o',hk t (by simp) o' ho',r'⟩
 item:=λi s Q E hi st hQ=>nxT_in st.1 st.2 (Array.getElem?_eq_getElem hi) λh' a b=>hQ _ h' s.toks (Array.getElem?_eq_getElem hi) ⟨a,st.2.extBut b.extBut hne⟩ b
 done:=λs Q E st hE=>nxT_out hh st.1 st.2 (Array.getElem?_eq_none (zD _)) hE
theorem drawnT {prog:Program}{w:World}{A:Around} (hh:A.handled=none) (it t:Addr) (items:Array Value) :
  Draws prog w A it [it,t] 0 (λ_ _=>False) (λ_ h=>∃ j,h.IsTupleIter it t j/\h.IsTuple t items/\items[j]?=none) where
 live:=λ_ _ st=>let ⟨_,⟨o,ho,_⟩,_⟩:=st;⟨o,ho⟩
 frame:=λ_ _ _ st hk=>let ⟨j,⟨o,ho,r⟩,⟨o',ho',r'⟩,z⟩:=st;⟨j,⟨o,hk it (by simp) o ho,r⟩,⟨o',hk t (by simp) o' ho',r'⟩,z⟩
 item:=λi s Q E hi _ _=>absurd hi (yI _)
 done:=λs Q E st hE=>let ⟨_,a,b,c⟩:=st;nxT_out hh a b c hE
section
variable {prog:Program}{w:World}{A:Around}{E:Value->Shared->Prop}{s:Shared}
theorem enumT_new (l:Addr) (items:Array Value) (o:Obj) :
  Meets (Builtin.«enumerate.__new__» ⟨[.type "enumerate", .ref l],[]⟩) (λ_ R s=>(s.heap.get? l=some o/\s.heap.IsTuple l items) /\
   R (.ok (.ret (.ref (s.heap.push { cls:=.type "tuple_iterator", data:=.fields #[.ref l,.int 0 0] }).objs.size)))
    { s with heap:=(s.heap.push { cls:=.type "tuple_iterator", data:=.fields #[.ref l,.int 0 0] }).push { cls:=.type "enumerate", data:=.fields #[.none,.bool false,.ref s.heap.objs.size,rawInt 0,.none,.none] } }):=
 .of_wp λprog w A R s ⟨⟨hl,hL⟩,h⟩=>by
  obtain ⟨hp,g,d,tk,os⟩:=s
  have hsub:=sub_enumerate
  wp_walk using wpAny_loadPart' hl
  refine wpAny_stack_any λst=>wpAny_pure ?_
  split
  ·rename_i c _ _ _ _ _
   cases (c == Value.type "enumerate") <;> (wp_walk using wpAny_loadPart' hl,wpAny_pyIter_tuple hL) <;> exact ⟨_,rfl,h⟩
  ·wp_walk using wpAny_loadPart' hl,wpAny_pyIter_tuple hL
   exact ⟨_,rfl,h⟩
theorem call_enumT {l:Addr}{items:Array Value}{Q:Value->Shared->Prop} (hL:s.heap.IsTuple l items)
  (h:∀ h',IsEnum h' (s.heap.objs.size + 1) s.heap.objs.size 0 .none->h'.IsTupleIter s.heap.objs.size l 0 ->
   (∀ b o,s.heap.get? b=some o->h'.get? b=some o)->Q (.ref (s.heap.objs.size + 1)) { s with heap:=h' }) :
  wpAny (model prog w) A (call (.type "enumerate") [.ref l]) Q E s:=by
 obtain ⟨o,hl,_⟩:=id hL
 refine callType_new F.called_enumerate (by decide) (F.typeCall_enumerate_1 _) (F.newCall_enumerate_1 _) (λobj=>F.args_object_init_2 obj _) F.entry_enumerate_new (enumT_new l items o) ⟨⟨hl,hL⟩,?_⟩
 generalize hG:s.heap.push { cls:=.type "tuple_iterator", data:=.fields #[.ref l,.int 0 0] }=G
 have hz:G.objs.size=s.heap.objs.size + 1:=by rw [<-hG,Heap.size_push]
 have hi:G.get? s.heap.objs.size=some { cls:=.type "tuple_iterator", data:=.fields #[.ref l,.int 0 0] }:=by rw [<-hG];exact Heap.get?_push_size _ rfl
 have he:=Heap.get?_push_size G (o:={ cls:=.type "enumerate", data:=.fields #[.none,.bool false,.ref s.heap.objs.size,rawInt 0,.none,.none] }) rfl
 rw [hz] at he
 show _/\_
 rw [hz]
 exact ⟨⟨_,he,rfl⟩,h _ he ⟨_,Heap.get?_push_of_some _ hi,rfl,rfl⟩ λb o x=>Heap.get?_push_of_some _ (by rw [<-hG];exact Heap.get?_push_of_some _ x)⟩
end
def IteT (K:PySem.W.Frag) (a:Addr):It:=
 ⟨λi H=>∃ xs x,SqT K H a xs/\xs[i]?=some x,λi H y H'=>∃ p x,H p=none/\y=.ref p/\H'=upd H p (.tup [.int i,x])/\∀ xs,SqT K H a xs->xs[i]?=some x,λi H=>∃ xs,SqT K H a xs/\xs.length<=i⟩
theorem turn_enumT {P:Program}{w:World}{K:PySem.W.Frag}{es:List Expr}{k:Nat}{pos:Pos} (a e it:Addr) (hne:e≠it) :
  Turn P w K (.Tuple es k pos) (IteT K a) [e,it] e (λi h=>(∃ old,IsEnum h e it i old)/\h.IsTupleIter it a i) where
 mem:=by simp
 obj:=λi h st b hb=>by
  obtain ⟨⟨old,he⟩,o,hi,c,d⟩:=st
  rcases zH.mp hb with z | z
  ·subst z;exact ⟨_,he,λv q=>nomatch q⟩
  ·have z':b=it:=by simpa using z
   subst z'
   exact ⟨o,hi,λv q=>by rw [d] at q;cases q⟩
 keep:=λi h h' st q=>by
  obtain ⟨⟨old,he⟩,o,hi,r⟩:=st
  exact ⟨⟨old,q e (by simp) _ he⟩,o,q it (by simp) o hi,r⟩
 item:=by
  intro X hP hw hK hc i pins s σ H E I hf st hg
  subst hP hw hK
  obtain ⟨xs,x,hq,hx⟩:=hg
  obtain ⟨its,rv,p,hz⟩:=I.tuple hq
  obtain ⟨u,hu,ru⟩:=rv.get hx
  obtain ⟨⟨old,he⟩,hi⟩:=st
  obtain ⟨e0,e1,e2,e3,e4,e5⟩:=hf e (by simp)
  obtain ⟨f0,f1,f2,f3,f4,f5⟩:=hf it (by simp)
  have el:e < s.heap.objs.size:=Heap.lt_size he
  have il:it < s.heap.objs.size:=let ⟨_,z,_⟩:=hi;Heap.lt_size z
  have ht:s.heap.IsTuple a its.toArray:=p
  have hal:a < s.heap.objs.size:=let ⟨_,z,_⟩:=ht;Heap.lt_size z
  have hai:a≠it:=λz=>by
   obtain ⟨o1,z1,c1,_⟩:=ht
   obtain ⟨o2,z2,c2,_⟩:=hi
   rw [z,z2] at z1;cases z1;rw [c2] at c1;exact absurd (Value.type.inj c1) (by decide)
  have hae:e ∉ [it,a]:=λz=>by
   rcases zH.mp z with z | z
   ·exact hne z
   ·have z':e=a:=by simpa using z
    obtain ⟨o1,z1,c1,_⟩:=ht
    rw [<-z',he] at z1;cases z1;exact absurd (Value.type.inj c1) (by decide)
  refine wpAny_pyNext_enum_itemD (drawsT (A:=X.A.in1) (I.ok.hd hc) it a hai its.toArray) he ⟨hi,ht⟩ (by simpa using (zB.mp hu).1) hne hae λu1 h1 tk hu1 ho hst1 hT hsz hk=>?_
  have eu:u=u1:=by
   have q:its.toArray[i]?=some u:=by simpa using hu
   have hu1':its.toArray[i]?=some u1:=hu1
   rw [q] at hu1';exact Option.some.inj hu1'
  subst eu
  have hi1:=hst1.1
  refine ⟨_,rfl,?_⟩
  refine wpAny_letOwnedTupleGo_enum ho λh2 he2 hs2=>?_
  have hs2':Heap.SameBut e h1 h2:=hs2
  have old2:∀ b o,b≠e->b≠it->s.heap.get? b=some o->h2.get? b=some o:=λb o hb hb' q=>hs2'.extBut b o hb (hk b o hb hb' q)
  have hT2:h2.get? s.heap.objs.size=some { cls:=.type "tuple", data:=.seq #[.int i tk,u] }:=hs2'.extBut _ _ (yN el) hT
  have nT:H s.heap.objs.size=none:=I.hok.fresh (zD _)
  refine ⟨.ref s.heap.objs.size,upd H s.heap.objs.size (.tup [.int i,x]),?_,rfl,⟨_,x,nT,rfl,rfl,λys hy=>by rw [I.tuple_inj hy hq];exact hx⟩,⟨⟨u,by simpa using he2⟩,?_⟩,λb hb=>?_⟩
  ·have nch:∀ b,b ∉ [e,it]->b≠e/\b≠it:=λb hb=>⟨λz=>hb (by simp [z]),λz=>hb (by simp [z])⟩
   refine Inv.step (s:=s) (h':=h2) (g':=s.gens) (d':=s.drawn) (t':=tk + 1) (ch:=[e,it]) I (λb hb=>?_) (λb o _ _ hb q _=>old2 b o (nch b hb).1 (nch b hb).2 q) (λb o _ _ hb q _=>⟨o.slots,old2 b o (nch b hb).1 (nch b hb).2 q⟩)
    (λb o _ q n=>by rw [xb (zU (Heap.lt_size q))];exact n) (λb o hb q=>⟨o,old2 b o (nch b hb).1 (nch b hb).2 q⟩)
    (λb ys q=>by rw [xb (xZ q nT)];exact q) (λb o v q=>by rw [xb (xZ q nT)];exact q) (λb ps q=>⟨#[],by rw [xb (xZ q nT),q];simp⟩)
    (λm hm=>by
     obtain ⟨o,es',ep,q,r⟩:=hm
     exact ⟨o,es',ep,old2 _ o (Ne.symm e1) (Ne.symm f1) q,r⟩) (λb v q=>?_) I.bare
   ·rcases zH.mp hb with z | z
    ·subst z;exact ⟨e3,e1,e4,e5⟩
    ·have z':b=it:=by simpa using z
     subst z';exact ⟨f3,f1,f4,f5⟩
   ·by_cases hb:b=s.heap.objs.size
    ·subst hb
     rw [xW] at q
     cases q
     exact ⟨⟨by show 2<=sizeLine;rw [sizeLine_eq];decide,λob e=>by rw [hT2] at e;cases e;rfl⟩,[.int i tk,u],.cons ⟨_,rfl⟩ (.cons ru .nil),⟨_,hT2,rfl,_,rfl⟩⟩
    ·rw [xb hb] at q
     refine (I.hok b v q).stay (λc ob hc qc=>old2 c ob ?_ ?_ qc) (λc qc=>by rw [xb (xZ qc nT)];exact qc) λc ys qc=>by rw [xb (xZ qc nT)];exact qc
     ·rcases hc with z | z
      ·subst z;exact xZ q e0
      ·exact xZ z e0
     ·rcases hc with z | z
      ·subst z;exact xZ q f0
      ·exact xZ z f0
  ·obtain ⟨o,q,r⟩:=hi1
   exact ⟨o,hs2'.extBut it o (Ne.symm hne) q,r⟩
  ·rcases zH.mp hb with z | z
   ·subst z;rw [xb (zU el)];exact e0
   ·have z':b=it:=by simpa using z
    subst z';rw [xb (zU il)];exact f0
 done:=by
  intro X hP hw hK hc i pins s σ H E I hf st hg
  subst hP hw hK
  obtain ⟨xs,hq,hx⟩:=hg
  obtain ⟨its,rv,p,hz⟩:=I.tuple hq
  obtain ⟨⟨old,he⟩,hi⟩:=st
  obtain ⟨f0,f1,f2,f3,f4,f5⟩:=hf it (by simp)
  have hl:=rv.length
  have ht:s.heap.IsTuple a its.toArray:=p
  have hai:a≠it:=λz=>by
   obtain ⟨o1,z1,c1,_⟩:=ht
   obtain ⟨o2,z2,c2,_⟩:=hi
   rw [z,z2] at z1;cases z1;rw [c2] at c1;exact absurd (Value.type.inj c1) (by decide)
  exact wpAny_pyNext_enum_endD (drawnT (A:=X.A.in1) (I.ok.hd hc) it a its.toArray) he ⟨i,hi,ht,by simp;omega⟩ λh' eb=>⟨rfl,I.turned (t':=s.toks) (λb o hb e=>eb b o hb e) f0 f1 f3 f4 f5⟩
 self:=λ_ _ _ _ _ st h=>let ⟨⟨_,he⟩,_⟩:=st;wpAny_pyIter_enum he h
def iEnumT (K:PySem.W.Frag) (ta:TA):TI:=fun σ H R=>ta σ H λvs H1=>∃ a,vs=[.ref a]/\(∃ xs,SqT K H1 a xs)/\R (IteT K a) H1
theorem pi_enumT {X:Cx}{a:Expr}{ta:TA} {p pos pos2:Pos}{es:List Expr}{k:Nat}{K:PySem.W.Frag} (hK:X.K=K) (hg:Gl X "enumerate") (hm:X.mg "enumerate" = none) (ha:PA X [a] ta) (hs:starEach [a] X.env=[(false,eval a X.env)]:=by rfl) :
  PI X (.Tuple es k pos2) (.Call (.Name "enumerate" p) [a] [] pos) (iEnumT K ta):=by
 subst hK
 intro pins s σ H R I h
 refine Call_ (ld_blt I hg hm boot_enumerate (yP (thn (ha pos pins s σ H _ I h) λus s1 ⟨vs,H1,I1,r1,q1⟩=>?_) hs rfl))
 obtain ⟨l,e,⟨xs,hq⟩,q⟩:=q1
 subst e
 cases r1 with
 | cons r rr=>
  cases rr
  cases r
  obtain ⟨its,rv,p,hz⟩:=I1.tuple hq
  refine call_enumT (show s1.heap.IsTuple l its.toArray from p) λh' he hi hk=>?_
  refine wpAny_pyIter_enum he ?_
  have I2:Inv X pins σ H1 { s1 with heap:=h' }:=I1.kept (t':=s1.toks) hk
  refine ⟨s1.heap.objs.size + 1,[s1.heap.objs.size + 1,s1.heap.objs.size],_,_,H1,rfl,I2,turn_enumT l _ _ (Nat.succ_ne_self _),⟨⟨_,he⟩,hi⟩,λb hb=>?_,q⟩
  have hb':s1.heap.objs.size<=b:=by
   rcases zH.mp hb with z | z
   ·subst z;exact yu _
   ·have z':b=s1.heap.objs.size:=by simpa using z
    subst z';exact zD _
  exact I1.fpOk hb' (I1.hok.fresh hb')
def IteL (K:PySem.W.Frag) (a:Addr):It:=
 ⟨λi H=>∃ xs x,SqL K H a xs/\xs[i]?=some x,λi H y H'=>∃ p x,H p=none/\y=.ref p/\H'=upd H p (.tup [.int i,x])/\∀ xs,SqL K H a xs->xs[i]?=some x,λi H=>∃ xs,SqL K H a xs/\xs.length<=i⟩
theorem turn_enumL {P:Program}{w:World}{K:PySem.W.Frag}{es:List Expr}{k:Nat}{pos:Pos} (a e it:Addr) (hne:e≠it) :
  Turn P w K (.Tuple es k pos) (IteL K a) [e,it] e (λi h=>(∃ old,IsEnum h e it i old)/\h.IsListIter it a i) where
 mem:=by simp
 obj:=λi h st b hb=>by
  obtain ⟨⟨old,he⟩,o,hi,c,d⟩:=st
  rcases zH.mp hb with z | z
  ·subst z;exact ⟨_,he,λv q=>nomatch q⟩
  ·have z':b=it:=by simpa using z
   subst z'
   exact ⟨o,hi,λv q=>by rw [d] at q;cases q⟩
 keep:=λi h h' st q=>by
  obtain ⟨⟨old,he⟩,o,hi,r⟩:=st
  exact ⟨⟨old,q e (by simp) _ he⟩,o,q it (by simp) o hi,r⟩
 item:=by
  intro X hP hw hK hc i pins s σ H E I hf st hg
  subst hP hw hK
  obtain ⟨xs,x,hq,hx⟩:=hg
  obtain ⟨its,rv,p,hz⟩:=I.list hq
  obtain ⟨u,hu,ru⟩:=rv.get hx
  obtain ⟨⟨old,he⟩,hi⟩:=st
  obtain ⟨e0,e1,e2,e3,e4,e5⟩:=hf e (by simp)
  obtain ⟨f0,f1,f2,f3,f4,f5⟩:=hf it (by simp)
  have el:e < s.heap.objs.size:=Heap.lt_size he
  have il:it < s.heap.objs.size:=let ⟨_,z,_⟩:=hi;Heap.lt_size z
  refine wpAny_pyNext_enum_item he hi p.isList (x:=u) (by simpa using hu) hne λh1 ho hi1 hT hsz hk=>?_
  obtain ⟨tk,htk⟩:∃ tk,tk=s.toks:=⟨_,rfl⟩
  rw [<-htk] at hT ⊢
  refine ⟨_,rfl,?_⟩
  refine wpAny_letOwnedTupleGo_enum ho λh2 he2 hs2=>?_
  have hs2':Heap.SameBut e h1 h2:=hs2
  have old2:∀ b o,b≠e->b≠it->s.heap.get? b=some o->h2.get? b=some o:=λb o hb hb' q=>hs2'.extBut b o hb (hk b o hb hb' q)
  have hT2:h2.get? s.heap.objs.size=some { cls:=.type "tuple", data:=.seq #[.int i tk,u] }:=hs2'.extBut _ _ (yN el) hT
  have nT:H s.heap.objs.size=none:=I.hok.fresh (zD _)
  refine ⟨.ref s.heap.objs.size,upd H s.heap.objs.size (.tup [.int i,x]),?_,rfl,⟨_,x,nT,rfl,rfl,λys hy=>by rw [I.list_inj hy hq];exact hx⟩,⟨⟨u,by simpa using he2⟩,?_⟩,λb hb=>?_⟩
  ·have nch:∀ b,b ∉ [e,it]->b≠e/\b≠it:=λb hb=>⟨λz=>hb (by simp [z]),λz=>hb (by simp [z])⟩
   refine Inv.step (s:=s) (h':=h2) (g':=s.gens) (d':=s.drawn) (t':=tk + 1) (ch:=[e,it]) I (λb hb=>?_) (λb o _ _ hb q _=>old2 b o (nch b hb).1 (nch b hb).2 q) (λb o _ _ hb q _=>⟨o.slots,old2 b o (nch b hb).1 (nch b hb).2 q⟩)
    (λb o _ q n=>by rw [xb (zU (Heap.lt_size q))];exact n) (λb o hb q=>⟨o,old2 b o (nch b hb).1 (nch b hb).2 q⟩)
    (λb ys q=>by rw [xb (xZ q nT)];exact q) (λb o v q=>by rw [xb (xZ q nT)];exact q) (λb ps q=>⟨#[],by rw [xb (xZ q nT),q];simp⟩)
    (λm hm=>by
     obtain ⟨o,es',ep,q,r⟩:=hm
     exact ⟨o,es',ep,old2 _ o (Ne.symm e1) (Ne.symm f1) q,r⟩) (λb v q=>?_) I.bare
   ·rcases zH.mp hb with z | z
    ·subst z;exact ⟨e3,e1,e4,e5⟩
    ·have z':b=it:=by simpa using z
     subst z';exact ⟨f3,f1,f4,f5⟩
   ·by_cases hb:b=s.heap.objs.size
    ·subst hb
     rw [xW] at q
     cases q
     exact ⟨⟨by show 2<=sizeLine;rw [sizeLine_eq];decide,λob e=>by rw [hT2] at e;cases e;rfl⟩,[.int i tk,u],.cons ⟨_,rfl⟩ (.cons ru .nil),⟨_,hT2,rfl,_,rfl⟩⟩
    ·rw [xb hb] at q
     refine (I.hok b v q).stay (λc ob hc qc=>old2 c ob ?_ ?_ qc) (λc qc=>by rw [xb (xZ qc nT)];exact qc) λc ys qc=>by rw [xb (xZ qc nT)];exact qc
     ·rcases hc with z | z
      ·subst z;exact xZ q e0
      ·exact xZ z e0
     ·rcases hc with z | z
      ·subst z;exact xZ q f0
      ·exact xZ z f0
  ·obtain ⟨o,q,r⟩:=hi1
   exact ⟨o,hs2'.extBut it o (Ne.symm hne) q,r⟩
  ·rcases zH.mp hb with z | z
   ·subst z;rw [xb (zU el)];exact e0
   ·have z':b=it:=by simpa using z
    subst z';rw [xb (zU il)];exact f0
 done:=by
  intro X hP hw hK hc i pins s σ H E I hf st hg
  subst hP hw hK
  obtain ⟨xs,hq,hx⟩:=hg
  obtain ⟨its,rv,p,hz⟩:=I.list hq
  obtain ⟨⟨old,he⟩,hi⟩:=st
  obtain ⟨f0,f1,f2,f3,f4,f5⟩:=hf it (by simp)
  have hl:=rv.length
  exact wpAny_pyNext_enum_end (I.ok.hd hc) he hi p.isList (by simp;omega) λh' eb=>⟨rfl,I.turned (t':=s.toks) (λb o hb e=>eb b o hb e) f0 f1 f3 f4 f5⟩
 self:=λ_ _ _ _ _ st h=>let ⟨⟨_,he⟩,_⟩:=st;wpAny_pyIter_enum he h
def iEnumL (K:PySem.W.Frag) (ta:TA):TI:=fun σ H R=>ta σ H λvs H1=>∃ a,vs=[.ref a]/\(∃ xs,SqL K H1 a xs)/\R (IteL K a) H1
theorem pi_enumL {X:Cx}{a:Expr}{ta:TA} {p pos pos2:Pos}{es:List Expr}{k:Nat}{K:PySem.W.Frag} (hK:X.K=K) (hg:Gl X "enumerate") (hm:X.mg "enumerate" = none) (ha:PA X [a] ta) (hs:starEach [a] X.env=[(false,eval a X.env)]:=by rfl) :
  PI X (.Tuple es k pos2) (.Call (.Name "enumerate" p) [a] [] pos) (iEnumL K ta):=by
 subst hK
 intro pins s σ H R I h
 refine Call_ (ld_blt I hg hm boot_enumerate (yP (thn (ha pos pins s σ H _ I h) λus s1 ⟨vs,H1,I1,r1,q1⟩=>?_) hs rfl))
 obtain ⟨l,e,⟨xs,hq⟩,q⟩:=q1
 subst e
 cases r1 with
 | cons r rr=>
  cases rr
  cases r
  obtain ⟨its,rv,p,hz⟩:=I1.list hq
  refine call_enumerate_list p.isList λh' he hi hsz hk=>?_
  refine wpAny_pyIter_enum he ?_
  have I2:Inv X pins σ H1 { s1 with heap:=h' }:=I1.kept (t':=s1.toks) hk
  refine ⟨s1.heap.objs.size + 1,[s1.heap.objs.size + 1,s1.heap.objs.size],_,_,H1,rfl,I2,turn_enumL l _ _ (Nat.succ_ne_self _),⟨⟨_,he⟩,hi⟩,λb hb=>?_,q⟩
  have hb':s1.heap.objs.size<=b:=by
   rcases zH.mp hb with z | z
   ·subst z;exact yu _
   ·have z':b=s1.heap.objs.size:=by simpa using z
    subst z';exact zD _
  exact I1.fpOk hb' (I1.hok.fresh hb')
end L2
namespace L2
open PySem PySem.Spec PyProof.Rows
def tyS (H:Hp):V->Option String
 | .non=>some "NoneType"
 | .bl _=>some "bool"
 | .int _=>some "int"
 | .str _=>some "str"
 | .ref a=>match H a with
  | some (.lst _)=>some "list"
  | some (.frz _ (.lst _))=>some "list"
  | some (.tup _)=>some "tuple"
  | some (.dK _)=>some "dict"
  | _=>none
 | _=>none
theorem tyS_of {K:PySem.W.Frag}{H:Hp}{x:V}{t:String} (h:tyS H x=some t):TyOf K H x (.type t):=by
 cases x with
 | non=>cases h;exact .non
 | bl b=>cases h;exact .bl b
 | int i=>cases h;exact .int i
 | str x=>cases h;exact .str x
 | ref a=>
  unfold tyS at h
  dsimp only at h
  split at h
  ·rename_i e;cases h;exact .lst e
  ·rename_i e;cases h;exact .frz e
  ·rename_i e;cases h;exact .tup e
  ·rename_i e;cases h;exact .dK e
  ·cases h
 | _=>cases h
theorem tyS_six {H:Hp}{x:V}{t:String} (h:tyS H x=some t):t = "NoneType" \/ t = "bool" \/ t = "int" \/ t = "str" \/ t = "list" \/ t = "tuple" \/ t = "dict" := by
 cases x with
 | ref a=>
  unfold tyS at h
  dsimp only at h
  split at h <;> cases h <;> simp
 | _=>cases h <;> simp
def isSub (t T:String):Bool:=t == T || (t == "bool" && T == "int")
theorem kit_of {K:PySem.W.Frag}{t T:String} (h:t = "NoneType" \/ t = "bool" \/ t = "int" \/ t = "str" \/ t = "list" \/ t = "tuple" \/ t = "dict") (hT:T = "int" \/ T = "bool" \/ T = "list" \/ T = "tuple"):PySem.W.kitOne K (.type t) (.type T)=some (isSub t T):=by
 rcases h with rfl | rfl | rfl | rfl | rfl | rfl | rfl <;> rcases hT with rfl | rfl | rfl | rfl <;> first | rfl | decide +kernel
section
variable {X:Cx}
theorem wb:CallR X (.builtin "isinstance") (λxs H Q=>∃ x t T,xs=[x,.ty T]/\tyS H x=some t/\(T = "int" \/ T = "bool" \/ T = "list" \/ T = "tuple")/\Q (.bl (isSub t T)) H):=by
 intro pins s σ H xs us Q I r h
 obtain ⟨x,t,T,rfl,ht,hT,q⟩:=h
 obtain ⟨u,w',rfl,r1,r2⟩:=vals2 r
 cases r2
 exact isinst_ok I r1 (tyS_of ht) (kit_of (tyS_six ht) hT) λtk=>⟨.bl _,H,I.tok tk,rfl,q⟩
theorem wu:OpR X (binaryOp .FloorDiv) (rI (λ_ j=>0 < j/\j < 2 ^ 200) λi j=>.int (i / j)):=opI λi j _ _ _ _ _ hc q=>by
 have e:i.fdiv j=i / j:=Int.fdiv_eq_ediv_of_nonneg _ (by omega)
 rw [<-e] at q
 refine floordiv_int (by omega) q (.inl (PyProof.noPylong_of_log2 ?_))
 have h0:j.natAbs≠0:=by omega
 have h1:j.natAbs < 2 ^ 200:=by omega
 have:=(Nat.log2_lt h0).mpr h1
 omega
theorem op_neNil (hu:X.A.units + 64 < cLine):OpR X (compareOp .NotEq) (λx y H Q=>∃ a b xs,x=.ref a/\y=.ref b/\SqL X.K H a xs/\SqL X.K H b []/\Q (.bl (!xs.isEmpty)) H):=by
 intro pins s σ H x y v u Q I rx ry h
 obtain ⟨a,b,xs,rfl,rfl,ha,hb,q⟩:=h
 cases rx;cases ry
 obtain ⟨its,r,p,_⟩:=I.list ha
 obtain ⟨its2,r2,p2,_⟩:=I.list hb
 cases r2
 cases r with
 | nil=>exact SeqAt.RcNeAt.lists (e:=λ_=>true) p.isList p2.isList rfl (by omega) (λj h1=>absurd h1 (yI _)) _ _ _ _ ⟨.bl _,H,I,rfl,q⟩
 | cons r1 rr=>exact SeqAt.RcNeAt.lists_lengths p.isList p2.isList (by simp) (by omega) _ _ _ _ ⟨.bl _,H,I,rfl,q⟩
theorem op_eqUnit (hu:X.A.units + 64 < cLine):OpR X (compareOp .Eq) (λx y H Q=>∃ a b xs,x=.ref a/\y=.ref b/\SqT X.K H a xs/\SqT X.K H b []/\Q (.bl xs.isEmpty) H):=by
 intro pins s σ H x y v u Q I rx ry h
 obtain ⟨a,b,xs,rfl,rfl,ha,hb,q⟩:=h
 cases rx;cases ry
 obtain ⟨its,r,p,_⟩:=I.tuple ha
 obtain ⟨its2,r2,p2,_⟩:=I.tuple hb
 cases r2
 have q':Q (.bl ((List.range (min its.toArray.size ([]:List Value).toArray.size)).all (λ_=>true) && its.toArray.size == ([]:List Value).toArray.size)) H:=by
  cases r with
  | nil=>simpa using q
  | cons r1 rr=>simpa using q
 exact SeqAt.RcAt.tuples (e:=λ_=>true) p p2 (by omega) (λj h1 h2=>absurd h2 (yI _)) _ _ _ _ ⟨.bl _,H,I,rfl,q'⟩
variable {K:PySem.W.Frag}
theorem wD {es:List Expr}{k:Nat}{t:TGs}{n:Nat}{pos:Pos} (hK:X.K=K) (hc:X.calm=true) (h:PGs X es t)
  (hn:(assignEach es X.env).length=n:=by rfl) (hst:(assignEach es X.env).findIdx? (·.1)=none:=by rfl):PG X (.Tuple es k pos) (gTup K n t):=by subst hK;exact pg_tup hc h hn hst
theorem wN {tg l:Expr}{tl:TE} (hK:X.K=K) (hl:PE X l tl):PI X tg l (iList K tl):=by subst hK;exact pi_list hl
theorem pi_tup'' {tg l:Expr}{tl:TE} (hK:X.K=K) (hl:PE X l tl):PI X tg l (iTup K tl):=by subst hK;exact pi_tup hl
theorem xx (hK:X.K=K):IxR X (rIxL K):=by subst hK;exact ix_list
theorem xy (hK:X.K=K):IxR X (rIxT K):=by subst hK;exact ix_tup
theorem sl_list' (hK:X.K=K):SlR X (rSlL K):=by subst hK;exact sl_list
theorem sl_tup' (hK:X.K=K):SlR X (rSlT K):=by subst hK;exact sl_tup
theorem op_in_seq' (hK:X.K=K):OpR X (compareOp .In) (rIn K false):=by subst hK;exact op_in_seq
theorem xo (hK:X.K=K):CallR X (.builtin "len") (λxs H Q=>∃ p ys,xs=[.ref p]/\(SqL K H p ys\/SqT K H p ys)/\Q (.int ys.length) H):=by subst hK;exact call_len_seq
theorem call_list_of' (hK:X.K=K):CallR X (.type "list") (λxs H Q=>∃ p ys,xs=[.ref p]/\(SqL K H p ys\/SqT K H p ys)/\∀ l,H l=none->Q (.ref l) (upd H l (.lst ys))):=by subst hK;exact call_list_of
end
end L2
namespace L2
open PySem PySem.Spec PyProof.Rows
theorem get_list {X:Cx}{K:PySem.W.Frag} (hK:X.K=K):PGet X (λo i H Q=>∃ p xs v,∃ k:Nat,o=.ref p/\i=.int k/\SqL K H p xs/\xs[k]?=some v/\Q v H):=by
 subst hK
 intro pins s σ H o i ov iv Q I ro ri h
 obtain ⟨p,xs,v,k,rfl,rfl,hq,hv,q⟩:=h
 cases ro
 obtain ⟨t,rfl⟩:=ri
 obtain ⟨its,r,pl,hz⟩:=I.list hq
 obtain ⟨w,ew,rw'⟩:=r.get hv
 have hk:k < xs.length:=(zB.mp hv).1
 have hn:=line63
 exact wpAny_getItem_list pl.isList (by omega) (by omega) (by simpa using ew) ⟨v,H,I,rw',q⟩
end L2
namespace SmSort
open PySem PySem.W PyProof.Rows
def KOK {α:Type} (n:Nat) (c:Nat->Nat->Bool):KasT α->(α->Prop)->Prop
 | .ret a,P=>P a
 | .ask i j k,P=>i < n/\j < n/\KOK n c (k (c i j)) P
theorem KOK.bind {α β:Type}{n:Nat}{c:Nat->Nat->Bool}{f:α->KasT β}{P:β->Prop}:∀ (t:KasT α),KOK n c t (λa=>KOK n c (f a) P)->KOK n c (t.bind f) P
 | .ret a,h=>h
 | .ask i j k,h=>⟨h.1,h.2.1,KOK.bind (k (c i j)) h.2.2⟩
theorem KOK.mono {α:Type}{n:Nat}{c:Nat->Nat->Bool}{P P':α->Prop} (hp:∀ a,P a->P' a):∀ (t:KasT α),KOK n c t P->KOK n c t P'
 | .ret a,h=>hp a h
 | .ask i j k,h=>⟨h.1,h.2.1,KOK.mono hp (k (c i j)) h.2.2⟩
theorem KOK.wp {α:Type}{n:Nat}{c:Nat->Nat->Bool}{P:α->Prop}{Q:α->Shared->Prop}{cmp:Nat->Nat->(Bool->Shared->Prop)->Shared->Prop}{s:Shared}
  (hc:∀ i j C,i < n->j < n->C (c i j) s->cmp i j C s) (hq:∀ a,P a->Q a s):∀ (t:KasT α),KOK n c t P->t.kasWp cmp Q s
 | .ret a,h=>hq a h
 | .ask i j k,h=>hc i j _ h.1 h.2.1 (KOK.wp hc hq (k (c i j)) h.2.2)
section
variable {n:Nat}{f:Nat->Int}
def at' (p:Array Nat) (i:Nat):Nat:=(p[i]?).getD 0
theorem wR (p:Array Nat) (i:Nat):p.getD i 0=at' p i:=by unfold at';simp
def g (f:Nat->Int) (p:Array Nat) (i:Nat):Int:=f (at' p i)
def Pm (n:Nat) (p:Array Nat):Prop:=p.Perm (List.toArray (List.range n))
theorem Pm.size {p:Array Nat} (h:Pm n p):p.size=n:=by rw [Array.Perm.size_eq h];simp
theorem Pm.lt {p:Array Nat} (h:Pm n p) {i:Nat} (hi:i < n):at' p i < n:=by
 have hs:=h.size
 have e:at' p i=p[i]'(by omega):=by unfold at';simp [hs,hi]
 have hm:p[i]'(by omega)∈p:=Array.getElem_mem _
 have hm':=(Array.Perm.mem_iff h).mp hm
 rw [e]
 simpa using hm'
theorem Pm.rev {p:Array Nat} (h:Pm n p) (i j:Nat):Pm n (kas_rev p i j):=(mirror_perm p i j _).trans h
theorem Pm.bub {p:Array Nat} (h:Pm n p) (k d:Nat):Pm n (bubble p k d):=(bubble_perm p k d).trans h
theorem g_rev {p:Array Nat}{i j:Nat} (hj:j<=p.size) (k:Nat):g f (kas_rev p i j) k=if i<=k/\k < j then g f p (i + j - 1 - k) else g f p k:=by
 unfold g at' kas_rev
 rw [getElem?_mirror_all hj k]
 split <;> rfl
theorem g_bub {p:Array Nat}{src d:Nat} (hs:src < p.size) (hd:d<=src) (k:Nat):g f (bubble p src d) k=if k=src - d then g f p src else if src - d < k/\k<=src then g f p (k - 1) else g f p k:=by
 unfold g at'
 rw [getElem?_bubble hs d hd k]
 split
 ·rfl
 ·split <;> rfl
def Up (f:Nat->Int) (p:Array Nat) (k:Nat):Prop:=∀ i j,i<=j->j < k->g f p i<=g f p j
def Dn (f:Nat->Int) (p:Array Nat) (k:Nat):Prop:=∀ i j,i<=j->j < k->g f p j<=g f p i
def cf (f:Nat->Int) (i j:Nat):Bool:=decide (f i < f j)
theorem asc_ok {p:Array Nat} (hp:Pm n p):∀ (q m:Nat),1<=m->m + q<=n->Up f p m->KOK n (cf f) (kas_asc p q m) (λm'=>m<=m'/\m'<=m + q/\Up f p m'/\(m' < m + q->g f p m' < g f p (m' - 1)))
 | 0,m,_,_,hu=>⟨zD _,zD _,hu,λh=>absurd h (yF _)⟩
 | q + 1,m,h1,h2,hu=>by
  unfold kas_asc
  refine ⟨by rw [wR];exact hp.lt (by omega),by rw [wR];exact hp.lt (by omega),?_⟩
  rw [wR,wR]
  by_cases hc:g f p m < g f p (m - 1)
  ·have e:cf f (at' p m) (at' p (m - 1))=true:=decide_eq_true hc
   rw [e];dsimp only;rw [if_pos rfl]
   exact ⟨zD _,by omega,hu,λ_=>hc⟩
  ·have e:cf f (at' p m) (at' p (m - 1))=false:=decide_eq_false hc
   rw [e];dsimp only;rw [if_neg zJ]
   refine KOK.mono (λm' h=>⟨by omega,by omega,h.2.2.1,λz=>h.2.2.2 (by omega)⟩) _ (asc_ok hp q (m + 1) (by omega) (by omega) λi j hij hj=>?_)
   by_cases hjm:j < m
   ·exact hu i j hij hjm
   ·have ej:j=m:=by omega
    subst ej
    by_cases hi:i=j
    ·subst hi;omega
    ·have:=hu i (j - 1) (by omega) (by omega)
     omega
def Blk (f:Nat->Int) (p:Array Nat) (m q:Nat):Prop:=∀ i,m<=i + (q + 1)->i < m->g f p i=g f p (m - 1)
theorem rev_same {p:Array Nat} (hp:Pm n p) {m q:Nat} (hm:m<=n) (hq:q + 1<=m) (hb:Blk f p m q) (k:Nat):g f (kas_rev p (m - (q + 1)) m) k=g f p k:=by
 rw [g_rev (by rw [hp.size];exact hm)]
 split
 ·rename_i h
  rw [hb _ (by omega) (by omega),hb k (by omega) (by omega)]
 ·rfl
theorem desc_ok:∀ (t:Nat) (p:Array Nat) (m q:Nat),Pm n p->1<=m->m + t<=n->q + 1<=m->Dn f p m->Blk f p m q ->
  KOK n (cf f) (kas_desc t p m q) (λr=>Pm n r.1/\m<=r.2.1/\r.2.1<=n/\r.2.2 + 1<=r.2.1/\Dn f r.1 r.2.1/\Blk f r.1 r.2.1 r.2.2)
 | 0,p,m,q,hp,h1,h2,h3,hd,hb=>⟨hp,zD _,by simpa using h2,h3,hd,hb⟩
 | t + 1,p,m,q,hp,h1,h2,h3,hd,hb=>by
  unfold kas_desc
  refine ⟨by rw [wR];exact hp.lt (by omega),by rw [wR];exact hp.lt (by omega),?_⟩
  rw [wR,wR]
  by_cases hc:g f p m < g f p (m - 1)
  ·have e:cf f (at' p m) (at' p (m - 1))=true:=decide_eq_true hc
   rw [e];dsimp only;rw [if_pos rfl]
   have step:∀ p':Array Nat,Pm n p'->(∀ k,g f p' k=g f p k)->KOK n (cf f) (kas_desc t p' (m + 1) 0) (λr=>Pm n r.1/\m<=r.2.1/\r.2.1<=n/\r.2.2 + 1<=r.2.1/\Dn f r.1 r.2.1/\Blk f r.1 r.2.1 r.2.2):=λp' hp' hg=>by
    refine KOK.mono (λr h=>⟨h.1,by omega,h.2.2⟩) _ (desc_ok t p' (m + 1) 0 hp' (by omega) (by omega) (by omega) (λi j hij hj=>?_) λi hi hi'=>?_)
    ·rw [hg,hg]
     by_cases hjm:j < m
     ·exact hd i j hij hjm
     ·have ej:j=m:=by omega
      subst ej
      by_cases hi:i=j
      ·subst hi;omega
      ·have:=hd i (j - 1) (by omega) (by omega)
       omega
    ·have:i=m + 1 - 1:=by omega
     rw [this]
   split
   ·exact step _ (hp.rev _ _) (rev_same hp (by omega) h3 hb)
   ·exact step _ hp λ_=>rfl
  ·have e:cf f (at' p m) (at' p (m - 1))=false:=decide_eq_false hc
   rw [e];dsimp only;rw [if_neg zJ]
   refine ⟨hp.lt (by omega),hp.lt (by omega),?_⟩
   by_cases hc2:g f p (m - 1) < g f p m
   ·have e2:cf f (at' p (m - 1)) (at' p m)=true:=decide_eq_true hc2
    rw [e2];dsimp only;rw [if_pos rfl]
    exact ⟨hp,zD _,by show m<=n;omega,h3,hd,hb⟩
   ·have e2:cf f (at' p (m - 1)) (at' p m)=false:=decide_eq_false hc2
    rw [e2];dsimp only;rw [if_neg zJ]
    have eq:g f p m=g f p (m - 1):=by omega
    refine KOK.mono (λr h=>⟨h.1,by omega,h.2.2⟩) _ (desc_ok t p (m + 1) (q + 1) hp (by omega) (by omega) (by omega) (λi j hij hj=>?_) λi hi hi'=>?_)
    ·by_cases hjm:j < m
     ·exact hd i j hij hjm
     ·have ej:j=m:=by omega
      subst ej
      by_cases hi:i=j
      ·subst hi;omega
      ·have:=hd i (j - 1) (by omega) (by omega)
       omega
    ·rw [show m + 1 - 1=m from rfl]
     by_cases hi2:i=m
     ·rw [hi2]
     ·rw [hb i (by omega) (by omega),eq]
theorem tail3_ok {p:Array Nat}{m:Nat} (hp:Pm n p) (h1:1<=m) (hm:m<=n) (hd:Dn f p m):KOK n (cf f) (kas_tail3 m n p) (λr=>Pm n r.2/\r.1<=n/\1<=r.1/\Up f r.2 r.1):=by
 unfold kas_tail3
 have hp':=hp.rev 0 m
 refine KOK.bind _ (KOK.mono (λm' h=>⟨hp',by omega,by omega,h.2.2.1⟩) _ (asc_ok hp' (n - m) m h1 (by omega) λi j hij hj=>?_))
 rw [g_rev (by rw [hp.size];exact hm),g_rev (by rw [hp.size];exact hm),if_pos ⟨by omega,by omega⟩,if_pos ⟨by omega,by omega⟩]
 exact hd _ _ (by omega) (by omega)
theorem descPart_ok {p:Array Nat}{m:Nat} (hp:Pm n p) (h1:1<=m) (hm:m < n) (hd:Dn f p (m + 1)):KOK n (cf f) (kas_descPart m n p) (λr=>Pm n r.2/\r.1<=n/\1<=r.1/\Up f r.2 r.1):=by
 unfold kas_descPart
 refine KOK.bind _ (KOK.mono (λr h=>?_) _ (desc_ok (n - (m + 1)) p (m + 1) 0 hp (by omega) (by omega) (by omega) hd λi hi hi'=>by rw [show i=m + 1 - 1 by omega]))
 obtain ⟨a1,a2,a3,a4,a5,a6⟩:=h
 split
 ·exact tail3_ok (a1.rev _ _) (by omega) a3 λi j hij hj=>by
   rw [rev_same a1 a3 a4 a6,rev_same a1 a3 a4 a6]
   exact a5 i j hij hj
 ·exact tail3_ok a1 (by omega) a3 a5
theorem count_ok {p:Array Nat} (hn:1<=n) (hp:Pm n p):KOK n (cf f) (kas_count n p) (λr=>Pm n r.2/\r.1<=n/\1<=r.1/\Up f r.2 r.1):=by
 unfold kas_count
 refine KOK.bind _ (KOK.mono (λm h=>?_) _ (asc_ok hp (n - 1) 1 (zD _) (by omega) λi j hij hj=>by rw [show i=j by omega];omega))
 obtain ⟨a1,a2,a3,a4⟩:=h
 split
 ·exact ⟨hp,by omega,a1,a3⟩
 ·rename_i hne
  have hlt:m < n:=by
   have:¬ m=n:=by simpa using hne
   omega
  have a4':=a4 (by omega)
  split
  ·rename_i hm1
   refine ⟨by rw [wR];exact hp.lt (by omega),by rw [wR];exact hp.lt (by omega),?_⟩
   rw [wR,wR]
   by_cases hc:g f p 0 < g f p (m - 1)
   ·have e:cf f (at' p 0) (at' p (m - 1))=true:=decide_eq_true hc
    rw [e];dsimp only;rw [if_pos rfl]
    exact ⟨hp,by omega,a1,a3⟩
   ·have e:cf f (at' p 0) (at' p (m - 1))=false:=decide_eq_false hc
    rw [e];dsimp only;rw [if_neg zJ]
    have all:∀ k,k < m->g f p k=g f p 0:=λk hk=>by
     have:=a3 0 k (by omega) hk
     have:=a3 k (m - 1) (by omega) (by omega)
     omega
    have gr:∀ k,g f (kas_rev p 0 m) k=g f p k:=λk=>by
     rw [g_rev (by rw [hp.size];omega)]
     split
     ·rw [all _ (by omega),all k (by omega)]
     ·rfl
    refine descPart_ok (hp.rev _ _) a1 hlt λi j hij hj=>?_
    rw [gr,gr]
    by_cases hjm:j < m
    ·rw [all i (by omega),all j hjm];omega
    ·have ej:j=m:=by omega
     subst ej
     by_cases hi:i=j
     ·subst hi;omega
     ·have:=all i (by omega)
      have:=all (j - 1) (by omega)
      omega
  ·refine descPart_ok hp a1 hlt λi j hij hj=>?_
   have em:m=1:=by omega
   subst em
   by_cases hi:i=j
   ·subst hi;omega
   ·have e1:i=0:=by omega
    have e2:j=1:=by omega
    subst e1 e2
    have:g f p 1 < g f p 0:=a4'
    omega
theorem place_ok {p:Array Nat}{k:Nat} (hp:Pm n p) (hk:k < n) (hu:Up f p k):∀ (t l r:Nat),l<=r->r<=k->r<=l + t->(∀ i,i < l->g f p i<=g f p k)->(∀ i,r<=i->i < k->g f p k < g f p i) ->
  KOK n (cf f) (kas_place p k t l r) (λl'=>l'<=k/\(∀ i,i < l'->g f p i<=g f p k)/\∀ i,l'<=i->i < k->g f p k < g f p i)
 | 0,l,r,h1,h2,h3,ha,hb=>⟨by omega,ha,λi hi hi'=>hb i (by omega) hi'⟩
 | t + 1,l,r,h1,h2,h3,ha,hb=>by
  unfold kas_place
  split
  ·exact ⟨by omega,ha,λi hi hi'=>hb i (by omega) hi'⟩
  ·rename_i hlr
   refine ⟨by rw [wR];exact hp.lt hk,by rw [wR];exact hp.lt (by omega),?_⟩
   rw [wR,wR]
   by_cases hc:g f p k < g f p ((l + r) / 2)
   ·have e:cf f (at' p k) (at' p ((l + r) / 2))=true:=decide_eq_true hc
    rw [e];dsimp only;rw [if_pos rfl]
    refine place_ok hp hk hu t l ((l + r) / 2) (by omega) (by omega) (by omega) ha λi hi hi'=>?_
    have:=hu ((l + r) / 2) i (by omega) hi'
    omega
   ·have e:cf f (at' p k) (at' p ((l + r) / 2))=false:=decide_eq_false hc
    rw [e];dsimp only;rw [if_neg zJ]
    refine place_ok hp hk hu t ((l + r) / 2 + 1) r (by omega) (by omega) (by omega) (λi hi=>?_) hb
    have:=hu i ((l + r) / 2) (by omega) (by omega)
    omega
theorem bin_ok:∀ (t:Nat) (p:Array Nat) (k:Nat),Pm n p->k + t=n->Up f p k->KOK n (cf f) (kas_bin t p k) (λp'=>Pm n p'/\Up f p' n)
 | 0,p,k,hp,hk,hu=>⟨hp,by rw [<-hk];exact hu⟩
 | t + 1,p,k,hp,hk,hu=>by
  unfold kas_bin
  refine KOK.bind _ (KOK.mono (λl h=>?_) _ (place_ok hp (by omega) hu k 0 k (by omega) (by omega) (by omega) (λi hi=>absurd hi (yI _)) λi hi hi'=>absurd hi' (by omega)))
  obtain ⟨a1,a2,a3⟩:=h
  refine bin_ok t _ (k + 1) (hp.bub _ _) (by omega) λi j hij hj=>?_
  have hs:k < p.size:=by rw [hp.size];omega
  rw [g_bub hs (by omega),g_bub hs (by omega)]
  have el:k - (k - l)=l:=by omega
  rw [el]
  by_cases hil:i=l
  ·rw [if_pos hil]
   by_cases hjl:j=l
   ·rw [if_pos hjl];omega
   ·rw [if_neg hjl,if_pos ⟨by omega,by omega⟩]
    have:=a3 (j - 1) (by omega) (by omega)
    omega
  ·rw [if_neg hil]
   by_cases hi2:l < i/\i<=k
   ·rw [if_pos hi2]
    rw [if_neg (by omega),if_pos ⟨by omega,by omega⟩]
    exact hu _ _ (by omega) (by omega)
   ·rw [if_neg hi2]
    have hi3:i < l:=by omega
    by_cases hjl:j=l
    ·rw [if_pos hjl];exact a2 i hi3
    ·rw [if_neg hjl]
     by_cases hj2:l < j/\j<=k
     ·rw [if_pos hj2];exact hu _ _ (by omega) (by omega)
     ·rw [if_neg hj2];exact hu _ _ hij (by omega)
theorem sort_ok (hn:1<=n):KOK n (cf f) (kas_sort n) (λp=>Pm n p/\Up f p n):=by
 unfold kas_sort
 refine KOK.bind _ (KOK.mono (λr h=>?_) _ (count_ok hn (show Pm n (List.toArray (List.range n)) from Array.Perm.refl _)))
 obtain ⟨a1,a2,a3,a4⟩:=h
 split
 ·have e:max r.1 1=r.1:=by omega
  rw [e]
  exact bin_ok _ _ _ a1 (by omega) a4
 ·have e:r.1=n:=by omega
  exact ⟨a1,by rw [<-e];exact a4⟩
end
end SmSort
namespace SmSort
def lx:List Int->List Int->Bool
 | [],[]=>false
 | [],_::_=>true
 | _::_,[]=>false
 | x::xs,y::ys=>if x=y then lx xs ys else decide (x < y)
theorem lx_irr:∀ r:List Int,lx r r=false
 | []=>rfl
 | x::xs=>by unfold lx;rw [if_pos rfl];exact lx_irr xs
theorem lx_tr:∀ {a b c:List Int},lx a b=true->lx b c=true->lx a c=true
 | [],[],_,h,_=>by cases h
 | [],_::_,[],_,h=>by cases h
 | [],_::_,_::_,_,_=>rfl
 | _::_,[],_,h,_=>by cases h
 | _::_,_::_,[],_,h=>by cases h
 | x::xs,y::ys,z::zs,h,h'=>by
  unfold lx at h h' ⊢
  split at h
  ·split at h'
   ·rename_i e1 e2;rw [if_pos (e1.trans e2)];exact lx_tr h h'
   ·rename_i e1 e2
    simp only [decide_eq_true_eq] at h'
    rw [if_neg (by omega)];simp only [decide_eq_true_eq];omega
  ·simp only [decide_eq_true_eq] at h
   split at h'
   ·rename_i e1 e2
    rw [if_neg (by omega)];simp only [decide_eq_true_eq];omega
   ·simp only [decide_eq_true_eq] at h'
    rw [if_neg (by omega)];simp only [decide_eq_true_eq];omega
theorem lx_tot:∀ {a b:List Int},lx a b=false->lx b a=false->a=b
 | [],[],_,_=>rfl
 | [],_::_,h,_=>by cases h
 | _::_,[],_,h=>by cases h
 | x::xs,y::ys,h,h'=>by
  unfold lx at h h'
  split at h
  ·rename_i e;subst e;rw [if_pos rfl] at h';rw [lx_tot h h']
  ·rename_i e
   rw [if_neg λz=>e z.symm] at h'
   simp only [decide_eq_false_iff_not] at h h'
   omega
def rk (rs:List (List Int)) (r:List Int):Int:=((rs.countP λx=>lx x r:Nat):Int)
theorem countP_lt {α:Type}{p q:α->Bool}{a:α}:∀ {l:List α},(∀ x,p x=true->q x=true)->a∈l->p a=false->q a=true->l.countP p < l.countP q
 | [],_,h,_,_=>by cases h
 | x::l,hpq,h,h1,h2=>by
  have hm:l.countP p<=l.countP q:=List.countP_mono_left λx _=>hpq x
  rcases zH.mp h with rfl | h
  ·rw [List.countP_cons_of_neg (by rw [h1];exact zJ),List.countP_cons_of_pos h2];omega
  ·have:=countP_lt hpq h h1 h2
   rw [List.countP_cons,List.countP_cons]
   cases e:p x with
   | true=>rw [hpq x e];simp;omega
   | false=>cases e2:q x <;> simp <;> omega
theorem rk_lt {rs:List (List Int)}{a b:List Int} (ha:a∈rs):decide (rk rs a < rk rs b)=lx a b:=by
 unfold rk
 cases h:lx a b with
 | true=>
  have:=countP_lt (p:=λx=>lx x a) (q:=λx=>lx x b) (λx hx=>lx_tr hx h) ha (lx_irr a) h
  simp only [decide_eq_true_eq];omega
 | false=>
  have hm:rs.countP (λx=>lx x b)<=rs.countP (λx=>lx x a):=List.countP_mono_left λx _ hx=>by
   cases h':lx b a with
   | true=>exact lx_tr hx h'
   | false=>rw [lx_tot h h'];exact hx
  simp only [decide_eq_false_iff_not];omega
end SmSort
namespace L2
open PySem PySem.Spec PyProof.Rows PySem.W SmSort
theorem ObjOk.at {P:Program}{w:World}{H:Hp}{h:Heap}{a:Addr}{o:HO} (x:ObjOk P w H h a o):∃ ob,h.get? a=some ob:=by
 cases o with
 | lst xs=>obtain ⟨_,_,_,_,e⟩:=x;exact ⟨_,e⟩
 | tup xs=>obtain ⟨_,_,_,ob,e,_⟩:=x;exact ⟨_,e⟩
 | dK kvs=>obtain ⟨_,_,_,_,o,_,_,e,_⟩:=x;exact ⟨_,e⟩
 | dT kvs=>obtain ⟨_,_,_,_,o,_,_,e,_⟩:=x;exact ⟨_,e⟩
 | set S n=>obtain ⟨o,_,_,_,e,_⟩:=x;exact ⟨_,e⟩
 | ins C dx fs=>obtain ⟨_,_,_,e,_⟩:=x;exact ⟨_,e⟩
 | own y=>obtain ⟨_,e⟩:=x;exact ⟨_,e⟩
 | xd fs=>obtain ⟨_,⟨_,_,_,e,_⟩,_⟩:=x;exact ⟨_,e⟩
 | rng lo hi=>obtain ⟨_,_,_,e⟩:=x;exact ⟨_,e⟩
 | frz ob u=>obtain ⟨e,_⟩:=x;exact ⟨_,e⟩
 | tbl ps=>exact ⟨_,(show h.get? a=some _ from x)⟩
 | met f y=>exact ⟨_,(show h.get? a=some _ from x)⟩
 | ext φ=>obtain ⟨_,⟨_,e⟩,_⟩:=x;exact ⟨_,e⟩
section
variable {X:Cx}{pins:List (Addr×Obj)}{σ:St}{H:Hp}{s:Shared}
theorem Inv.sortedTo {m:Str->Option Value}{h':Heap}{D:Addr}{its:List Value}{c:Nat}{xs:List V} (I:Inv X pins σ H s) (F0:Fr X.base X.env.locals s.heap m) (F:Fr X.base X.env.locals h' m)
  (N:News X.base X.env.locals h' ((D,listOf its.toArray c)::allNews X.base s.heap X.env.locals)) (lt:∀ q∈allNews X.base s.heap X.env.locals,q.1 < D) (hv:Vals xs its) (hz:xs.length<=sizeLine) :
  Inv X pins σ (upd H D (.lst xs)) { s with heap:=h' }/\H D=none:=by
 obtain ⟨eD,nL,nb⟩:=N (D,listOf its.toArray c) (.head _)
 have oldD:s.heap.get? D=none:=by
  cases q:s.heap.get? D with
  | none=>rfl
  | some o=>exact absurd (lt (D,o) (mem_allNews nL nb q)) (yF _)
 have hD:H D=none:=by
  cases q:H D with
  | none=>rfl
  | some u=>
   obtain ⟨ob,e⟩:=(I.hok D u q).at
   rw [oldD] at e;cases e
 have keep:∀ b o,b≠X.env.locals->s.heap.get? b=some o->h'.get? b=some o:=λb o hb e=>by
  cases q:X.base.get? b with
  | some u=>
   have:=I.bk b u q
   rw [e] at this;cases this
   exact F.keep b _ q
  | none=>exact (N (b,o) (.tail _ (mem_allNews hb q e))).1
 have neD:∀ b o,s.heap.get? b=some o->b≠D:=λb o e z=>by rw [z,oldD] at e;cases e
 have neT:∀ b u,H b=some u->b≠D:=λb u e z=>by rw [z,hD] at e;cases e
 refine ⟨I.step (g':=s.gens) (t':=s.toks) (d':=s.drawn) (ch:=[]) (λ_ z=>nomatch z) (λb o hb _ _ e _=>keep b o hb e) (λb o hb _ _ e _=>⟨o.slots,keep b o hb e⟩) (λb o _ e n=>by rw [xb (neD b o e)];exact n) (λb o _ e=>?_)
  (λb ys e=>by rw [xb (neT b _ e)];exact e) (λb o u e=>by rw [xb (neT b _ e)];exact e) (λb ps e=>⟨#[],by rw [xb (neT b _ e),e,Array.append_empty]⟩) (λm' hm=>?_) (λb u e=>?_) I.bare,hD⟩
 ·by_cases hb:b=X.env.locals
  ·obtain ⟨o',_,_,q,_⟩:=F.ns
   exact ⟨o',by rw [hb];exact q⟩
  ·exact ⟨o,keep b o hb e⟩
 ·obtain ⟨o1,es1,ep1,e1,d1,k1,f1⟩:=hm
  obtain ⟨o2,es2,ep2,e2,d2,k2,f2⟩:=F0.ns
  rw [e1] at e2;cases e2
  rw [d1] at d2;cases d2
  obtain ⟨o3,es3,ep3,e3,d3,k3,f3⟩:=F.ns
  exact ⟨o3,es3,ep3,e3,d3,k3,λname=>(f3 name).trans ((f2 name).symm.trans (f1 name))⟩
 ·by_cases hb:b=D
  ·subst hb;rw [xW] at e;cases e
   exact ⟨hz,its,c,hv,eD⟩
  ·rw [xb hb] at e
   refine (I.hok b u e).stay (λc v hc q=>keep c v (λz=>?_) q) (λc q=>by rw [xb (neT c _ q)];exact q) λc ys q=>by rw [xb (neT c _ q)];exact q
   rcases hc with rfl | hc
   ·rw [z,I.free] at e;cases e
   ·rw [z,I.free] at hc;cases hc
end
section
variable {prog:Program}{w:World}{A:Around}{E:Value->Shared->Prop}{s:Shared}
theorem sort_short {a:Addr}{its:List Value}{k:Nat}{P:PySem.Fin->Shared->Prop} (hx:s.heap.get? a=some (seqObj "list" its.toArray k)) (few:its.length < 2)
  (done:P (.done (.ret .none)) { s with heap:=sortedHeap s.heap a its its.toArray }):wpAny (model prog w) A (Builtin.«list.sort» ⟨[.ref a],[]⟩) P E s:=by
 have here:a < s.heap.objs.size:=Heap.lt_size hx
 have line:its.length<=sizeLine:=by rw [sizeLine_eq];omega
 rw [list_sort_plain]
 obtain ⟨e1,at1⟩:∃ e1,(s.heap.update a (Obj.mapSeq λ_=>(#[]:Array Value))).get? a=some (seqObj "list" #[] e1):=⟨_,get?_update_seq hx (λ_=>#[])⟩
 refine wpAny_bind (listItems_at hx rfl (wpAny_bind (listUpdate_at hx rfl (wpAny_bind (seqEpoch_at at1 rfl (wpAny_bind (wpAny_newTuple (wpAny_bind (wpAny_newList (wpAny_holding ?_) (zc _))) line))))
  (by rw [zM];exact line) (zc _))))
 have at2:(((s.heap.update a (Obj.mapSeq λ_=>(#[]:Array Value))).push (seqObj "tuple" its.toArray 0)).push (seqObj "list" #[] 0)).get? a=some (seqObj "list" #[] e1):=
  Heap.get?_push_of_some _ (Heap.get?_push_of_some _ at1)
 show wpAny (model prog w) A _ P E { s with heap:=((s.heap.update a (Obj.mapSeq λ_=>(#[]:Array Value))).push (seqObj "tuple" its.toArray 0)).push (seqObj "list" #[] 0) }
 have less:its.toArray.size < 2:=by rw [zM];exact few
 have snds:(arrOf (SortSt.mk' general' (its.toArray.zip its.toArray) #[] 7 none)).map (·.2)=its.toArray:=by
  show (its.toArray.zip its.toArray).map (·.2)=its.toArray
  match its,few with
  | [],_=>simp
  | [_],_=>simp
 dsimp only
 rw [if_pos less,if_pos less]
 refine wpAny_bind (wpAny_pure ?_)
 rw [StateT.run_pure]
 refine wpAny_bind (wpAny_pure ?_)
 dsimp only
 refine wpAny_bind (seqEpoch_at at2 rfl (wpAny_bind (listUpdate_at at2 rfl ?_ (zc _) (by rw [snds,zM];omega))))
 simp only [bne_self_eq_false,zb,if_false]
 rw [snds]
 exact wpAny_pure done
theorem sorted_short {l:Addr}{its:List Value}{Q:Value->Shared->Prop} (hl:s.heap.IsList l its.toArray) (few:its.length < 2)
  (done:Q (.ref (s.heap.objs.size + 1)) { s with heap:=sortedAll s.heap its its.toArray }):wpAny (model prog w) A (call (.builtin "sorted") [.ref l]) Q E s:=by
 have line:its.length<=sizeLine:=by rw [sizeLine_eq];omega
 refine Calls.call_function_entry kind_sorted plain_sorted entry_sorted (args_sorted1 _) ?_
 unfold Builtin.«sorted»
 refine wpAny_bind (m:=checkCount "sorted" 1 1 _) (wpAny_pure (wpAny_bind (collect_list hl (wpAny_bind (wpAny_newList ?_ line)) line)))
 have sz:((s.heap.push (seqObj "list" #[] 0)).update s.heap.objs.size (Obj.mapSeq (·++its.toArray))).objs.size=s.heap.objs.size + 1:=by rw [Heap.size_update,size_push']
 have atL:(((s.heap.push (seqObj "list" #[] 0)).update s.heap.objs.size (Obj.mapSeq (·++its.toArray))).push (seqObj "list" its.toArray 0)).get? (s.heap.objs.size + 1)=some (seqObj "list" its.toArray 0):=by
  rw [<-sz];exact Heap.get?_push_size _ rfl
 show wpAny _ _ _ _ _ { s with heap:=((s.heap.push (seqObj "list" #[] 0)).update s.heap.objs.size (Obj.mapSeq (·++its.toArray))).push (seqObj "list" its.toArray 0) }
 rw [sz]
 exact wpAny_bind (wpAny_holding (wpAny_call_entry slot_list_sort ⟨_,atL,rfl⟩ entry_list_sort (sort_short atL few ⟨_,rfl,wpAny_pure ⟨_,rfl,done⟩⟩) (args_list_sort _)))
end
section
variable {X:Cx}
theorem vals_refs:∀ {ps:List (Addr×List Int)}{us:List Value},Vals (ps.map λa=>V.ref a.1) us->us=ps.map λa=>Value.ref a.1
 | [],us,r=>by cases r;rfl
 | a::ps,us,r=>by
  cases r with
  | cons x y=>rw [vals_refs y];cases x;rfl
def RowAt (h:Heap) (a:Addr) (r:List Int):Prop:=∃ o items n,h.get? a=some o/\o.cls=.type "tuple" /\ o.data=.seq items n/\Vals (r.map V.int) items.toList
theorem vals_lex {prog:Program}{w:World}{A:Around}{s:Shared}{b fin:Bool}{Q:Bool->Shared->Prop}:∀ {r r':List Int}{us us':List Value}{i:Nat},Vals (r.map V.int) us->Vals (r'.map V.int) us'->fin=decide (us.length < us'.length)->Q (lx r r') s ->
  KatLex prog w A b fin Q (us.zip us') i s
 | [],[],us,us',i,ru,ru',hf,q=>by cases ru;cases ru';exact kat_nil (by rw [hf];exact q)
 | [],_::_,us,us',i,ru,ru',hf,q=>by
  cases ru;cases ru' with
  | cons _ _=>exact kat_nil (by rw [hf];simpa [lx] using q)
 | _::_,[],us,us',i,ru,ru',hf,q=>by
  cases ru';cases ru with
  | cons _ _=>exact kat_nil (by rw [hf];simpa [lx] using q)
 | x::r,y::r',us,us',i,ru,ru',hf,q=>by
  cases ru with
  | cons rx ru=>
  cases ru' with
  | cons ry ru'=>
  obtain ⟨t,rfl⟩:=rx
  obtain ⟨t',rfl⟩:=ry
  refine kat_cons (wpAny_eqBool_int ?_)
  unfold lx at q
  by_cases e:x=y
  ·subst e
   rw [if_pos rfl] at q
   rw [show (x == x)=true from by simp]
   exact kat_yes (vals_lex ru ru' (by rw [hf];simp) q)
  ·rw [if_neg e] at q
   rw [show (x == y)=false from by simpa using e]
   refine kat_no ?_
   cases (b && i == 0) with
   | true=>exact oneLt_int q
   | false=>exact kat_one _ _ (lt_int q)
theorem kat_tups {h:Heap}:∀ {ps:List (Addr×List Int)},(∀ a∈ps,RowAt h a.1 a.2/\a.2≠[])->∃ fs,KatTups h (ps.map λa=>Value.ref a.1) fs/\fs.length=ps.length/\∀ v∈fs,∃ i t,v=Value.int i t
 | [],_=>⟨[],KatTups.nil,rfl,λ_ z=>nomatch z⟩
 | (a,r)::ps,hp=>by
  obtain ⟨fs,k,l,f⟩:=kat_tups λa ha=>hp a (.tail _ ha)
  obtain ⟨⟨o,items,n,ho,hc,hd,hv⟩,hn⟩:=hp (a,r) (.head _)
  match r,hn,hv with
  | x::r,_,hv=>
   obtain ⟨u,hu,t,e⟩:=Vals.get (i:=0) hv rfl
   refine ⟨u::fs,KatTups.cons ho hc hd (by rw [<-hu];simp) k,by simp [l],λv hv=>?_⟩
   rcases zH.mp hv with rfl | hv
   ·exact ⟨x,t,e⟩
   ·exact f v hv
theorem range_map {α:Type} (d:α) (l:List α):(List.range l.length).map (λi=>l.getD i d)=l:=by
 apply List.ext_getElem
 ·simp
 ·intro i h1 h2
  simp [List.getD,h2]
theorem vals_of_refs:∀ (ps:List (Addr×List Int)),Vals (ps.map λa=>V.ref a.1) (ps.map λa=>Value.ref a.1)
 | []=>.nil
 | _::ps=>.cons rfl (vals_of_refs ps)
theorem call_sortT:CallR X (.builtin "sorted") (λxs H Q=>∃ p,∃ ps:List (Addr×List Int),xs=[.ref p]/\SqL X.K H p (ps.map λa=>V.ref a.1)/\ps.length < 64/\(∀ a∈ps,H a.1=some (.tup (a.2.map V.int))/\a.2≠[]) /\
  ∀ l qs,H l=none->List.Perm qs ps->qs.Pairwise (λa b=>lx b.2 a.2=false)->Q (.ref l) (upd H l (.lst (qs.map λa=>V.ref a.1)))):=by
 intro pins s σ H xs us Q I r h
 obtain ⟨p,ps,rfl,hq,h64,hrow,q⟩:=h
 obtain ⟨u,rfl,rx⟩:=vals1 r
 cases rx
 obtain ⟨its,r',pl,hz⟩:=I.list hq
 have ei:=vals_refs r'
 subst ei
 have hlen:(ps.map λa=>Value.ref a.1).length=ps.length:=by simp
 by_cases h2:ps.length < 2
 ·refine sorted_short pl.isList (by omega) ?_
  have sz:((s.heap.push (seqObj "list" #[] 0)).update s.heap.objs.size (Obj.mapSeq (·++(ps.map λa=>Value.ref a.1).toArray))).objs.size=s.heap.objs.size + 1:=by rw [Heap.size_update,size_push']
  have kp:∀ b o,s.heap.get? b=some o->(sortedAll s.heap (ps.map λa=>Value.ref a.1) (ps.map λa=>Value.ref a.1).toArray).get? b=some o:=λb o e=>by
   have lb:b < s.heap.objs.size:=Heap.lt_size e
   unfold sortedAll sortedHeap
   rw [Heap.get?_update_ne _ _ _ _ (zU (yY lb))]
   refine Heap.get?_push_of_some _ (Heap.get?_push_of_some _ ?_)
   rw [Heap.get?_update_ne _ _ _ _ (zU (yY lb))]
   refine Heap.get?_push_of_some _ ?_
   rw [Heap.get?_update_ne _ _ _ _ (zU lb)]
   exact Heap.get?_push_of_some _ e
  obtain ⟨c,ec⟩:∃ c,(sortedAll s.heap (ps.map λa=>Value.ref a.1) (ps.map λa=>Value.ref a.1).toArray).get? (s.heap.objs.size + 1)=some (seqObj "list" (ps.map λa=>Value.ref a.1).toArray c):=by
   have e0:=Heap.get?_push_size ((s.heap.push (seqObj "list" #[] 0)).update s.heap.objs.size (Obj.mapSeq (·++(ps.map λa=>Value.ref a.1).toArray))) (o:=seqObj "list" (ps.map λa=>Value.ref a.1).toArray 0) rfl
   rw [sz] at e0
   unfold sortedAll sortedHeap
   have e1:=get?_update_seq e0 (λ_=>(#[]:Array Value))
   exact ⟨_,get?_update_seq (Heap.get?_push_of_some _ (Heap.get?_push_of_some _ e1)) _⟩
  refine ⟨.ref (s.heap.objs.size + 1),_,I.laid (t':=s.toks) kp (yu _) (show ObjOk X.prog X.w _ _ _ (.lst (ps.map λa=>V.ref a.1)) from ⟨hz,_,c,r',ec⟩),rfl,q _ ps (I.hok.fresh (yu _)) (List.Perm.refl _) ?_⟩
  match ps,h2 with
  | [],_=>exact .nil
  | [_],_=>exact List.pairwise_singleton _ _
 ·obtain ⟨m,F⟩:=I.fr
  refine kat_sorted F (news_all (g:=X.base) (h:=s.heap)) pl.isList (by omega) (by omega) λD e1 h' F' N' lt=>?_
  have keep:∀ b o,b≠X.env.locals->s.heap.get? b=some o->h'.get? b=some o:=λb o hb e=>by
   cases q:X.base.get? b with
   | some u=>
    have:=I.bk b u q
    rw [e] at this;cases this
    exact F'.keep b _ q
   | none=>exact (N' (b,o) (.tail _ (mem_allNews hb q e))).1
  have rowAt:∀ a∈ps,RowAt h' a.1 a.2/\a.2≠[]:=λa ha=>by
   obtain ⟨ht,hn⟩:=hrow a ha
   obtain ⟨_,its,rv,o,e,c,n,d⟩:=I.hok a.1 _ ht
   refine ⟨⟨o,_,n,keep a.1 o (λz=>?_) e,c,d,rv⟩,hn⟩
   rw [z,I.free] at ht;cases ht
  obtain ⟨fs,kt,lf,hf⟩:=kat_tups rowAt
  refine kat_kind (T:=.type "int") kt (by omega) (λv hv=>?_) (by decide) ?_
  ·obtain ⟨i,t,rfl⟩:=hf v hv
   exact Looks.now
  have n1:1<=(ps.map λa=>Value.ref a.1).length:=by omega
  refine KOK.wp (c:=cf λi=>rk (ps.map (·.2)) ((ps.map (·.2)).getD i [])) (λi j C hi hj hC=>?_) (λpp hp=>?_) _ (sort_ok (f:=λi=>rk (ps.map (·.2)) ((ps.map (·.2)).getD i [])) n1)
  ·have hi':i < ps.length:=by omega
   have hj':j < ps.length:=by omega
   obtain ⟨⟨o,items,n,ho,hc,hd,hv⟩,hn⟩:=rowAt ps[i] (zj hi')
   obtain ⟨⟨o',items',n',ho',hc',hd',hv'⟩,hn'⟩:=rowAt ps[j] (zj hj')
   unfold kas_ask
   have ei:(ps.map λa=>Value.ref a.1).getD i Value.none=.ref ps[i].1:=by simp [hi']
   have ej:(ps.map λa=>Value.ref a.1).getD j Value.none=.ref ps[j].1:=by simp [hj']
   rw [ei,ej]
   refine kat_lt ho hd ho' hd' (vals_lex hv hv' (by simp) ?_)
   have e:cf (λi=>rk (ps.map (·.2)) ((ps.map (·.2)).getD i [])) i j=lx ps[i].2 ps[j].2:=by
    unfold cf
    have e1:(ps.map (·.2)).getD i []=ps[i].2:=by simp [hi']
    have e2:(ps.map (·.2)).getD j []=ps[j].2:=by simp [hj']
    simp only [e1,e2]
    exact rk_lt (zQ.mpr ⟨ps[i],zj hi',rfl⟩)
   rw [e] at hC
   exact hC
  ·obtain ⟨pm,up⟩:=hp
   refine KasFin.intro F' N' (UpdF.head λx hx=>zU (lt x hx)) λh2' c F2 N2=>?_
   have pl:pp.toList.Perm (List.range ps.length):=by
    have:=pm.toList
    rw [hlen] at this
    simpa using this
   have eo:(pp.toList.map λi=>(ps.map λa=>Value.ref a.1).getD i Value.none)=(pp.toList.map λi=>ps.getD i (0,[])).map λa=>Value.ref a.1:=by
    rw [yA]
    refine yR λi hi=>?_
    have hi':i < ps.length:=zl.mp (pl.mem_iff.mp hi)
    simp [hi']
   have perm:(pp.toList.map λi=>ps.getD i (0,[])).Perm ps:=by
    have:=pl.map λi=>ps.getD i (0,[])
    rwa [range_map] at this
   rw [eo] at N2
   have hzz:((pp.toList.map λi=>ps.getD i (0,[])).map λa=>V.ref a.1).length<=sizeLine:=by
    rw [zA,perm.length_eq,sizeLine_eq];omega
   obtain ⟨I2,hD⟩:=I.sortedTo F F2 N2 lt (vals_of_refs _) hzz
   refine ⟨.ref D,_,I2,rfl,q D _ hD perm ?_⟩
   rw [zp]
   intro i j hi hj hij
   simp only [zA,Array.length_toList] at hi hj
   simp only [List.getElem_map,Array.getElem_toList]
   have hn:pp.size=ps.length:=by rw [pm.size];exact hlen
   have key:=up i j (xF hij) (by omega)
   have a1:pp[i] < ps.length:=zl.mp (pl.mem_iff.mp (by simp))
   have a2:pp[j] < ps.length:=zl.mp (pl.mem_iff.mp (by simp))
   unfold g at'  at key
   simp only [hi,hj,getElem?_pos,Option.getD_some] at key
   have e1:(ps.map (·.2)).getD pp[i] []=ps[pp[i]].2:=by simp [a1]
   have e2:(ps.map (·.2)).getD pp[j] []=ps[pp[j]].2:=by simp [a2]
   rw [e1,e2] at key
   have e3:ps.getD pp[i] (0,[])=ps[pp[i]]:=by simp [a1]
   have e4:ps.getD pp[j] (0,[])=ps[pp[j]]:=by simp [a2]
   rw [e3,e4]
   have:=rk_lt (rs:=ps.map (·.2)) (a:=ps[pp[j]].2) (b:=ps[pp[i]].2) (zQ.mpr ⟨_,zj a2,rfl⟩)
   rw [<-this]
   simp only [decide_eq_false_iff_not]
   omega
end
end L2
namespace L2
open PySem PySem.Spec PyProof.Rows
def notStar:Expr->Bool
 | .Starred _ _=>false
 | _=>true
theorem star_cons {e:Expr}{es:List Expr}{env:Env} (h:notStar e=true):starEach (e::es) env=(false,eval e env)::starEach es env:=by
 cases e <;> first | rfl | cases h
@[irreducible] def PA2 (X:Cx) (es:List Expr) (t:TA):Prop:=PA X es t
theorem xV {X:Cx}{es:List Expr}{t:TA} (h:PA2 X es t):PA X es t:=by unfold PA2 at h;exact h
theorem pa_in {X:Cx}{es:List Expr}{t:TA} (h:PA X es t):PA2 X es t:=by unfold PA2;exact h
theorem xi {X:Cx}:PA2 X [] tNil:=pa_in wK
theorem xX {X:Cx}{e:Expr}{es:List Expr}{te:TE}{t:TA} (ha:PE X e te) (hr:PA2 X es t) (hn:notStar e=true):PA2 X (e::es) (tCons te t):=pa_in (pa_cons ha (xV hr) (star_cons hn))
@[irreducible] def PSs2 (X:Cx) (es:List Stmt) (t:TS):Prop:=PSs X es t
theorem xg {X:Cx}{es:List Stmt}{t:TS} (h:PSs2 X es t):PSs X es t:=by unfold PSs2 at h;exact h
theorem bl_in {X:Cx}{es:List Stmt}{t:TS} (h:PSs X es t):PSs2 X es t:=by unfold PSs2;exact h
theorem xu {X:Cx}{a:Stmt}{t:TS} (h:PS X a t):PSs2 X [a] t:=bl_in (pss_one h)
theorem xj {X:Cx}{a b:Stmt}{rest:List Stmt}{t u:TS} (h:PS X a t) (hr:PSs2 X (b::rest) u):PSs2 X (a::b::rest) (tSeq t u):=bl_in (pss_cons h (xg hr))
end L2
namespace L2
open PySem PySem.Spec PyProof.Rows
section
variable {K:PySem.W.Frag}{a:Addr}{xs:List V}{n:Nat}{caps:List Nat}{g:TG}{tc:TT}{te:TE}{σ:St}{H:Hp}{Qf:Addr->Hp->List V->Prop}
theorem comp_of {J:It} (Pv:Nat->St->List V->Hp->Prop) (len:Nat) (h0:Pv 0 (tau0 n caps σ) [] H) (hn:len<=1000) (hl:∀ i τ acc H,Pv i τ acc H->acc.length<=i)
  (hgo:∀ i τ acc H,i < len->Pv i τ acc H->J.go i H) (hstop:∀ τ acc H,Pv len τ acc H->J.stop len H)
  (hs:∀ i τ acc H (C:St->List V->Hp->Prop),i < len->Pv i τ acc H->(∀ τ acc H,Pv (i + 1) τ acc H->C τ acc H)->∀ x H',J.yld i H x H'->g x τ H' fun τ2 H2=>tc τ2 H2 λb H3=>if b=true then te τ2 H3 λy H4=>C τ2 (acc++[y]) H4 else C τ2 acc H3)
  (hd:∀ τ acc H,Pv len τ acc H->∀ p,H p=none->Qf p H acc) :
  ∃ W:Nat->Nat->St->List V->Hp->Prop,(∃ m,W 0 m (tau0 n caps σ) [] H)/\∀ i m τ acc H,W i m τ acc H ->
   (J.stop i H/\acc.length<=sizeLine/\∀ p,H p=none->Qf p H acc) \/
   (J.go i H/\acc.length < sizeLine/\∀ x H',J.yld i H x H'->g x τ H' fun τ2 H2=>tc τ2 H2 λb H3=>if b=true then te τ2 H3 λy H4=>∃ m',m' < m/\W (i + 1) m' τ2 (acc++[y]) H4 else ∃ m',m' < m/\W (i + 1) m' τ2 acc H3):=by
 have line:1001<=sizeLine:=by rw [sizeLine_eq];decide
 refine ⟨λi m τ acc H=>m=len - i/\i<=len/\Pv i τ acc H,⟨len,by simp,zc _,h0⟩,?_⟩
 rintro i m τ acc H ⟨rfl,hi,p⟩
 have q:=hl i τ acc H p
 by_cases hlt:i < len
 ·exact .inr ⟨hgo i τ acc H hlt p,by omega,λx H' y=>hs i τ acc H (fun τ acc H=>∃ m',m' < len - i/\m'=len - (i + 1)/\i + 1<=len/\Pv (i + 1) τ acc H) hlt p (fun τ acc H p'=>⟨len - (i + 1),by omega,rfl,hlt,p'⟩) x H' y⟩
 ·have e:i=len:=by omega
  subst e
  exact .inl ⟨hstop τ acc H p,by omega,hd τ acc H p⟩
theorem comp_tup (Pv:Nat->St->List V->Hp->Prop) (h0:Pv 0 (tau0 n caps σ) [] H) (hn:xs.length<=1000) (hl:∀ i τ acc H,Pv i τ acc H->acc.length<=i/\SqT K H a xs)
  (hs:∀ i x τ acc H (C:St->List V->Hp->Prop),xs[i]?=some x->Pv i τ acc H->(∀ τ acc H,Pv (i + 1) τ acc H->C τ acc H)->g x τ H fun τ2 H2=>tc τ2 H2 λb H3=>if b=true then te τ2 H3 λy H4=>C τ2 (acc++[y]) H4 else C τ2 acc H3)
  (hd:∀ τ acc H,Pv xs.length τ acc H->∀ p,H p=none->Qf p H acc) :
  ∃ W:Nat->Nat->St->List V->Hp->Prop,(∃ m,W 0 m (tau0 n caps σ) [] H)/\∀ i m τ acc H,W i m τ acc H ->
   ((Itt K a).stop i H/\acc.length<=sizeLine/\∀ p,H p=none->Qf p H acc) \/
   ((Itt K a).go i H/\acc.length < sizeLine/\∀ x H',(Itt K a).yld i H x H'->g x τ H' fun τ2 H2=>tc τ2 H2 λb H3=>if b=true then te τ2 H3 λy H4=>∃ m',m' < m/\W (i + 1) m' τ2 (acc++[y]) H4 else ∃ m',m' < m/\W (i + 1) m' τ2 acc H3):=
 comp_of (J:=Itt K a) Pv xs.length h0 hn (λi τ acc H p=>(hl i τ acc H p).1) (λi τ acc H hi p=>⟨xs,xs[i],(hl i τ acc H p).2,by simp [hi]⟩) (fun τ acc H p=>⟨xs,(hl _ τ acc H p).2,zD _⟩)
  (λi τ acc H C hi p c x H' y=>by obtain ⟨e,y⟩:=y;subst e;exact hs i x τ acc _ C (y xs (hl i τ acc _ p).2) p c) hd
theorem comp_list (Pv:Nat->St->List V->Hp->Prop) (h0:Pv 0 (tau0 n caps σ) [] H) (hn:xs.length<=1000) (hl:∀ i τ acc H,Pv i τ acc H->acc.length<=i/\SqL K H a xs)
  (hs:∀ i x τ acc H (C:St->List V->Hp->Prop),xs[i]?=some x->Pv i τ acc H->(∀ τ acc H,Pv (i + 1) τ acc H->C τ acc H)->g x τ H fun τ2 H2=>tc τ2 H2 λb H3=>if b=true then te τ2 H3 λy H4=>C τ2 (acc++[y]) H4 else C τ2 acc H3)
  (hd:∀ τ acc H,Pv xs.length τ acc H->∀ p,H p=none->Qf p H acc) :
  ∃ W:Nat->Nat->St->List V->Hp->Prop,(∃ m,W 0 m (tau0 n caps σ) [] H)/\∀ i m τ acc H,W i m τ acc H ->
   ((Itl K a).stop i H/\acc.length<=sizeLine/\∀ p,H p=none->Qf p H acc) \/
   ((Itl K a).go i H/\acc.length < sizeLine/\∀ x H',(Itl K a).yld i H x H'->g x τ H' fun τ2 H2=>tc τ2 H2 λb H3=>if b=true then te τ2 H3 λy H4=>∃ m',m' < m/\W (i + 1) m' τ2 (acc++[y]) H4 else ∃ m',m' < m/\W (i + 1) m' τ2 acc H3):=
 comp_of (J:=Itl K a) Pv xs.length h0 hn (λi τ acc H p=>(hl i τ acc H p).1) (λi τ acc H hi p=>⟨xs,xs[i],(hl i τ acc H p).2,by simp [hi]⟩) (fun τ acc H p=>⟨xs,(hl _ τ acc H p).2,zD _⟩)
  (λi τ acc H C hi p c x H' y=>by obtain ⟨e,y⟩:=y;subst e;exact hs i x τ acc _ C (y xs (hl i τ acc _ p).2) p c) hd
theorem comp_enumT (Pv:Nat->St->List V->Hp->Prop) (h0:Pv 0 (tau0 n caps σ) [] H) (hn:xs.length<=1000) (hl:∀ i τ acc H,Pv i τ acc H->acc.length<=i/\SqT K H a xs)
  (hs:∀ i x q τ acc H (C:St->List V->Hp->Prop),xs[i]?=some x->H q=none->Pv i τ acc H->(∀ τ acc H,Pv (i + 1) τ acc H->C τ acc H)->g (.ref q) τ (upd H q (.tup [.int i,x])) fun τ2 H2=>tc τ2 H2 λb H3=>if b=true then te τ2 H3 λy H4=>C τ2 (acc++[y]) H4 else C τ2 acc H3)
  (hd:∀ τ acc H,Pv xs.length τ acc H->∀ p,H p=none->Qf p H acc) :
  ∃ W:Nat->Nat->St->List V->Hp->Prop,(∃ m,W 0 m (tau0 n caps σ) [] H)/\∀ i m τ acc H,W i m τ acc H ->
   ((IteT K a).stop i H/\acc.length<=sizeLine/\∀ p,H p=none->Qf p H acc) \/
   ((IteT K a).go i H/\acc.length < sizeLine/\∀ x H',(IteT K a).yld i H x H'->g x τ H' fun τ2 H2=>tc τ2 H2 λb H3=>if b=true then te τ2 H3 λy H4=>∃ m',m' < m/\W (i + 1) m' τ2 (acc++[y]) H4 else ∃ m',m' < m/\W (i + 1) m' τ2 acc H3):=
 comp_of (J:=IteT K a) Pv xs.length h0 hn (λi τ acc H p=>(hl i τ acc H p).1) (λi τ acc H hi p=>⟨xs,xs[i],(hl i τ acc H p).2,by simp [hi]⟩) (fun τ acc H p=>⟨xs,(hl _ τ acc H p).2,zD _⟩)
  (λi τ acc H C hi p c x H' y=>by obtain ⟨q,x',hq,e1,e2,y⟩:=y;subst e1;subst e2;exact hs i x' q τ acc _ C (y xs (hl i τ acc _ p).2) hq p c) hd
theorem for_enumT {tb:TS}{D:Ends} (Pv:Nat->St->Hp->Prop) (h0:Pv 0 σ H) (hl:∀ i σ H,i<=xs.length->Pv i σ H->SqT K H a xs)
  (hs:∀ i x q σ H,xs[i]?=some x->H q=none->Pv i σ H->g (.ref q) σ (upd H q (.tup [.int i,x])) fun σ2 H2=>tb { D with nx:=Pv (i + 1),ct:=Pv (i + 1),bk:=D.nx } σ2 H2) (hd:∀ σ H,Pv xs.length σ H->D.nx σ H) :
  ∃ W:Nat->Nat->St->Hp->Prop,(∃ m,W 0 m σ H)/\∀ i m σ H,W i m σ H ->
   ((IteT K a).stop i H/\D.nx σ H)\/((IteT K a).go i H/\∃ N:St->Hp->Prop,(∀ σ' H',N σ' H'->∃ m',m' < m/\W (i + 1) m' σ' H')/\∀ x H',(IteT K a).yld i H x H'->g x σ H' fun σ2 H2=>tb { D with nx:=N,ct:=N,bk:=D.nx } σ2 H2):=by
 refine ⟨λi m σ H=>m=xs.length - i/\i<=xs.length/\Pv i σ H,⟨xs.length,by simp,zc _,h0⟩,?_⟩
 rintro i m σ H ⟨rfl,hi,p⟩
 have q:=hl i σ H hi p
 by_cases hlt:i < xs.length
 ·refine .inr ⟨⟨xs,xs[i],q,by simp [hlt]⟩,Pv (i + 1),fun σ' H' p'=>⟨xs.length - (i + 1),by omega,rfl,hlt,p'⟩,λx H' y=>?_⟩
  obtain ⟨q',x',hq,e1,e2,y⟩:=y
  subst e1;subst e2
  exact hs i x' q' σ _ (y xs q) hq p
 ·have e:i=xs.length:=by omega
  subst e
  exact .inl ⟨⟨xs,q,zD _⟩,hd σ H p⟩
end
end L2
namespace Sm
open PySem L2 SmSort
def But (p:Addr) (H H':Hp):Prop:=∀ b u,b≠p->H b=some u->H' b=some u
theorem But.refl (p:Addr) (H:Hp):But p H H:=λ_ _ _ h=>h
theorem But.trans {p:Addr} {H H1 H2:Hp} (a:But p H H1) (b:But p H1 H2):But p H H2:=λc u n h=>b c u n (a c u n h)
theorem But.set {p:Addr}{H:Hp}{o:HO}:But p H (upd H p o):=λb u n h=>by rw [xb n];exact h
theorem But.new {p l:Addr}{H:Hp}{o:HO} (h:H l=none):But p H (upd H l o):=λb u n e=>by rw [xb (xZ e h)];exact e
def Purse (H:Hp) (p:Addr):Prop:=∃ a b c:Int,H p=some (.lst [.int a,.int b,.int c])
def Go (p:Addr) (H H':Hp):Prop:=But p H H'/\Purse H' p
theorem Go.trans {p:Addr} {H H1 H2:Hp} (a:Go p H H1) (b:Go p H1 H2):Go p H H2:=⟨a.1.trans b.1,b.2⟩
theorem Go.refl {p:Addr}{H:Hp} (a:Purse H p):Go p H H:=⟨But.refl p H,a⟩
theorem Purse.new {p l:Addr}{H:Hp}{o:HO} (a:Purse H p) (h:H l=none):Purse (upd H l o) p:=by
 obtain ⟨x,y,z,e⟩:=a
 exact ⟨x,y,z,by rw [xb (xZ e h)];exact e⟩
theorem Purse.ne {p l:Addr}{H:Hp} (a:Purse H p) (h:H l=none):l≠p:=by
 obtain ⟨x,y,z,e⟩:=a
 exact (xZ e h).symm
theorem Go.new {p l:Addr} {H H1:Hp}{o:HO} (a:Go p H H1) (h:H1 l=none):Go p H (upd H1 l o):=⟨a.1.trans (But.new h),a.2.new h⟩
theorem Purse.tup {p t:Addr}{H:Hp}{xs:List V} (a:Purse H p) (h:H t=some (.tup xs)):t≠p:=by
 obtain ⟨x,y,z,e⟩:=a
 exact ne_of h e (by intro z;cases z)
def Tups (H H':Hp):Prop:=∀ b xs,H b=some (.tup xs)->H' b=some (.tup xs)
theorem Tups.trans {H H1 H2:Hp} (a:Tups H H1) (b:Tups H1 H2):Tups H H2:=λc u h=>b c u (a c u h)
theorem Go.tups {p:Addr}{H H':Hp} (a:Go p H H') (h:Purse H p):Tups H H':=λb xs e=>a.1 b _ (h.tup e) e
theorem Tups.new {l:Addr}{H:Hp}{o:HO} (h:H l=none):Tups H (upd H l o):=λb u e=>by rw [xb (xZ e h)];exact e
theorem Tups.set {l:Addr}{H:Hp}{xs:List V}{o:HO} (h:H l=some (.lst xs)):Tups H (upd H l o):=λb u e=>by rw [xb (ne_of e h (by intro z;cases z))];exact e
theorem Tups.same {H H':Hp} (h:Same H H'):Tups H H':=λb u e=>h b _ e
structure M4 where
 lo:Int
 hi:Int
 t:Int
 m:Int
def M4.vs (r:M4):List V:=[.int r.lo,.int r.hi,.int r.t,.int r.m]
def apart (a b:M4):Prop:=a.lo≠b.lo/\a.lo≠b.hi/\a.hi≠b.lo/\a.hi≠b.hi
structure Good (w:Int) (ms:List M4):Prop where
 few:ms.length<=60
 each:∀ r∈ms,0<=r.lo/\r.lo < r.hi/\r.hi < w/\1<=r.t/\r.t<=1000000000/\1<=r.m/\r.m<=99
 order:ms.Pairwise λa b=>a.t < b.t\/(a.t=b.t/\a.lo < b.lo/\apart a b)
def RowsAt (H:Hp) (ps:List (Addr×M4)):Prop:=∀ a∈ps,H a.1=some (.tup a.2.vs)
structure BookAt (H:Hp) (b:Addr) (rooms:List Int) (tr tm:Addr) (ps:List (Addr×M4)):Prop where
 book:H b=some (.tup [.ref tr,.ref tm])
 rooms:H tr=some (.tup (rooms.map V.int))
 meets:H tm=some (.tup (ps.map λa=>V.ref a.1))
 rows:RowsAt H ps
theorem RowsAt.tups {H H':Hp}{ps:List (Addr×M4)} (a:RowsAt H ps) (t:Tups H H'):RowsAt H' ps:=λx hx=>t _ _ (a x hx)
theorem BookAt.tups {H H':Hp}{b tr tm:Addr}{rooms:List Int}{ps:List (Addr×M4)} (a:BookAt H b rooms tr tm ps) (t:Tups H H'):BookAt H' b rooms tr tm ps:=
 ⟨t _ _ a.book,t _ _ a.rooms,t _ _ a.meets,a.rows.tups t⟩
def spPurse (K:PySem.W.Frag):Sp:=λvs H Q _=>∃ (a:Addr) (ns:List Int) (k:Nat),vs=[.ref a,.int k]/\SqL K H a (ns.map V.int)/\k < 1000/\∀ p H',H p=none->Purse H' p->Same H H'->Q (.ref p) H'
def spTake:Sp:=λvs H Q _=>∃ p n,vs=[.ref p,.int n]/\0 < n/\n < 2 ^ 200/\Purse H p/\∀ d H',0<=d->d < n->Go p H H'->Q (.int d) H'
def spFar:Sp:=λvs H Q _=>∃ p,vs=[.ref p]/\Purse H p/\∀ d H',0<=d->d<=1000000000->Go p H H'->Q (.int d) H'
def spRooms:Sp:=λvs H Q _=>∃ p,∃ n:Nat,vs=[.ref p,.int n]/\n<=1000/\Purse H p/\∀ (t:Addr) (rooms:List Int) (H':Hp),Go p H H'->H' t=some (.tup (rooms.map V.int))->rooms.length=n->(∀ r∈rooms,(0:Int)<=r/\r<=99)->Q (.ref t) H'
def spStep:Sp:=λvs H Q _=>∃ p,vs=[.ref p]/\Purse H p/\∀ d H',0<=d->d<=16000000->Go p H H'->Q (.int d) H'
def spMeetings:Sp:=λvs H Q _=>∃ p,∃ w:Int,∃ n:Nat,vs=[.ref p,.int w,.int n]/\n<=60/\w < 1000/\(n=0\/2<=w)/\Purse H p /\
 ∀ (t:Addr) (ps:List (Addr×M4)) (H':Hp),Go p H H'->H' t=some (.tup (ps.map λa=>V.ref a.1))->RowsAt H' ps->Good w (ps.map (·.2))->ps.length=n->Q (.ref t) H'
def spBook:Sp:=λvs H Q _=>∃ p,∃ a:Int,∃ n:Nat,vs=[.ref p,.int a,.int n]/\1<=a/\a<=100/\n<=60/\Purse H p /\
 ∀ (b:Addr) (rooms:List Int) (tr tm:Addr) (ps:List (Addr×M4)) (H':Hp),Go p H H'->BookAt H' b rooms tr tm ps->1<=rooms.length->(rooms.length:Int)<=a->(∀ r∈rooms,(0:Int)<=r/\r<=99)->Good rooms.length (ps.map (·.2))->ps.length<=n->Q (.ref b) H'
theorem iteD {c A B:Prop} [Decidable c] (h1:c->A) (h2:¬ c->B):if decide c=true then A else B:=by
 by_cases h:c
 ·rw [if_pos (decide_eq_true h)];exact h1 h
 ·rw [if_neg (by simpa using h)];exact h2 h
theorem iteB0 {c:Bool}{A B:Prop} (hc:c=false) (h:B):if c=true then A else B:=by
 rw [if_neg (by rw [hc];exact zJ)];exact h
theorem iteB1 {c:Bool}{A B:Prop} (hc:c=true) (h:A):if c=true then A else B:=by
 rw [if_pos hc];exact h
theorem iteB {c:Bool}{A B:Prop} (h1:c=true->A) (h2:c=false->B):if c=true then A else B:=by
 cases c with
 | true=>exact h1 rfl
 | false=>exact h2 rfl
theorem iteNS2 {c A B:Prop} [Decidable c] (hc:c) (h:B):if (!decide c)=true then A else B:=iteNS hc h
theorem xa {H:Hp}{p:Addr}{o:HO} (h:H p=none):Same H (upd H p o):=λb u e=>by
 rw [xb (xZ e h)];exact e
def M4.row (r:M4):List Int:=[r.t,r.lo,r.hi,r.m]
structure FOk (w when':Int) (bs:List Int) (fs:List (Addr×M4)):Prop where
 each:∀ a∈fs,0<=a.2.lo/\a.2.lo < a.2.hi/\a.2.hi < w/\1<=a.2.t/\a.2.t<=when'/\1<=a.2.m/\a.2.m<=99
 pw:fs.Pairwise λa b=>a.2.t=b.2.t->apart a.2 b.2
 bz:∀ a∈fs,a.2.t=when'->a.2.lo∈bs/\a.2.hi∈bs
theorem FOk.step {w wh gap one other m:Int}{bs bs':List Int}{fs:List (Addr×M4)}{a:Addr} (F:FOk w wh bs fs) (h1:1<=wh) (g0:0<=gap) (o0:0<=one) (o1:one < w) (p0:0<=other) (p1:other < w) (ne:one≠other)
  (m0:1<=m) (m1:m<=99) (hg:gap=0->one ∉ bs/\other ∉ bs) (hb:∀ x∈bs,gap=0->x∈bs') (hb1:one∈bs') (hb2:other∈bs') :
  FOk w (wh + gap) bs' (fs++[(a,⟨if other < one then other else one,if other > one then other else one,wh + gap,m⟩)]):=by
 refine ⟨λb hb=>?_,?_,λb hm e=>?_⟩
 ·rcases zT.mp hb with h | h
  ·obtain ⟨a1,a2,a3,a4,a5,a6,a7⟩:=F.each b h
   exact ⟨a1,a2,a3,a4,by omega,a6,a7⟩
  ·cases zF.mp h
   by_cases c:other < one
   ·rw [if_pos c,if_neg (by omega)];exact ⟨p0,c,o1,by show 1<=wh + gap;omega,zq _,m0,m1⟩
   ·rw [if_neg c,if_pos (by omega)];exact ⟨o0,by show one < other;omega,p1,by show 1<=wh + gap;omega,zq _,m0,m1⟩
 ·rw [List.pairwise_append]
  refine ⟨F.pw,List.pairwise_singleton _ _,λb hb c hc e=>?_⟩
  cases zF.mp hc
  have e':b.2.t=wh + gap:=e
  obtain ⟨a1,a2,a3,a4,a5,a6,a7⟩:=F.each b hb
  have g:gap=0:=by omega
  obtain ⟨x1,x2⟩:=F.bz b hb (by omega)
  obtain ⟨n1,n2⟩:=hg g
  have q1:b.2.lo≠one:=λz=>n1 (z ▸ x1)
  have q2:b.2.lo≠other:=λz=>n2 (z ▸ x1)
  have q3:b.2.hi≠one:=λz=>n1 (z ▸ x2)
  have q4:b.2.hi≠other:=λz=>n2 (z ▸ x2)
  unfold apart
  dsimp only
  by_cases c:other < one
  ·rw [if_pos c,if_neg (by omega)];exact ⟨q2,q1,q4,q3⟩
  ·rw [if_neg c,if_pos (by omega)];exact ⟨q1,q2,q3,q4⟩
 ·rcases zT.mp hm with h | h
  ·obtain ⟨a1,a2,a3,a4,a5,a6,a7⟩:=F.each b h
   obtain ⟨x1,x2⟩:=F.bz b h (by omega)
   exact ⟨hb _ x1 (by omega),hb _ x2 (by omega)⟩
  ·cases zF.mp h
   by_cases c:other < one
   ·rw [if_pos c,if_neg (by omega)];exact ⟨hb2,hb1⟩
   ·rw [if_neg c,if_pos (by omega)];exact ⟨hb1,hb2⟩
def M4.late (l:Int) (r:M4):M4:=⟨r.lo,r.hi,r.t + l,r.m⟩
theorem FOk.good {w wh l:Int}{bs:List Int}{fs qs:List (Addr×M4)} (F:FOk w wh bs fs) (n:fs.length<=60) (l0:0<=l) (l1:fs≠[]->wh + l<=1000000000) (p:qs.Perm fs) (s:qs.Pairwise λa b=>lx b.2.row a.2.row=false) :
  Good w (qs.map λa=>a.2.late l):=by
 refine ⟨by rw [zA,p.length_eq];exact n,λr hr=>?_,?_⟩
 ·obtain ⟨a,ha,rfl⟩:=zQ.mp hr
  have hm:=p.mem_iff.mp ha
  obtain ⟨a1,a2,a3,a4,a5,a6,a7⟩:=F.each a hm
  have:=l1 (List.ne_nil_of_mem hm)
  unfold M4.late
  exact ⟨a1,a2,a3,by show 1<=a.2.t + l;omega,by show a.2.t + l<=1000000000;omega,a6,a7⟩
 ·rw [yL]
  have ap:qs.Pairwise λa b=>a.2.t=b.2.t->apart a.2 b.2:=(List.Perm.pairwise_iff (λ{x y} h e=>by
   obtain ⟨a1,a2,a3,a4⟩:=h e.symm
   exact ⟨a1.symm,a3.symm,a2.symm,a4.symm⟩) p).mpr F.pw
  refine (s.and ap).imp λ{a b} ⟨h1,h2⟩=>?_
  unfold M4.late
  dsimp only
  unfold M4.row lx at h1
  by_cases e:a.2.t=b.2.t
  ·have q:=h2 e
   rw [if_pos e.symm] at h1
   unfold lx at h1
   rw [if_neg λz=>q.1 z.symm] at h1
   simp only [decide_eq_false_iff_not] at h1
   refine .inr ⟨by omega,?_,q⟩
   have:=q.1
   omega
  ·rw [if_neg λz=>e z.symm] at h1
   simp only [decide_eq_false_iff_not] at h1
   exact .inl (by omega)
def toM4 (r:List Int):M4:=⟨r.getD 1 0,r.getD 2 0,r.getD 0 0,r.getD 3 0⟩
theorem rows_back {fs:List (Addr×M4)}{qs:List (Addr×List Int)} (p:qs.Perm (fs.map λa=>(a.1,a.2.row))) (s:qs.Pairwise λa b=>lx b.2 a.2=false) :
  ∃ rs:List (Addr×M4),rs.Perm fs/\(rs.Pairwise λa b=>lx b.2.row a.2.row=false)/\qs=rs.map λa=>(a.1,a.2.row):=by
 have e:qs=(qs.map λa=>(a.1,toM4 a.2)).map λa=>(a.1,a.2.row):=by
  rw [yA]
  refine (List.map_id qs).symm.trans (yR λx hx=>?_)
  obtain ⟨a,_,rfl⟩:=zQ.mp (p.mem_iff.mp hx)
  rfl
 refine ⟨qs.map λa=>(a.1,toM4 a.2),?_,?_,e⟩
 ·have:=p.map λa=>(a.1,toM4 a.2)
  rw [yA] at this
  refine this.trans (.of_eq ?_)
  refine (yR λx _=>?_).trans (List.map_id fs)
  rfl
 ·rw [e,yL] at s
  exact s
theorem flat_ints (bs:List Int):(bs.map V.int).all flatV=true:=by
 rw [yp]
 intro x hx
 obtain ⟨b,_,rfl⟩:=zQ.mp hx
 rfl
theorem inV_ints {x:Int}{bs:List Int}:inV (.int x) (bs.map V.int)=decide (x∈bs):=by
 unfold inV
 induction bs with
 | nil=>rfl
 | cons b bs ih=>
  rw [zm,xB,ih]
  by_cases h:x=b
  ·subst h;simp [eqV]
  ·have h':¬ b=x:=λz=>h z.symm
   simp [eqV,h,h']
def PvM (p lf:Addr) (w:Int) (n:Nat) (H:Hp) (i:Nat) (σ:St) (H3:Hp):Prop:=
 ∃ v6 v7 v8 v9 v10 wh lb bs,∃ fs:List (Addr×M4),σ=[some (.ref p),some (.int w),some (.int n),some (.ref lf),some (.int wh),some (.ref lb),v6,v7,v8,v9,v10,none] /\
  H3 lf=some (.lst (fs.map λa=>V.ref a.1))/\H3 lb=some (.lst (List.map V.int bs))/\lb≠lf/\lb≠p/\(∀ a∈fs,H3 a.1=some (.tup (a.2.row.map V.int)))/\FOk w wh bs fs/\fs.length=i/\bs.length<=2 * i/\1<=wh/\wh<=10000000 + 16000000 * i/\Go p H H3
theorem PvM.step {p lf lb t:Addr}{w wh gap one other m:Int}{n i:Nat}{H Hx:Hp}{bs bs':List Int}{fs:List (Addr×M4)} {v6 v7 v8 v9 v10:Option V} (npf:lf≠p) (hlf:H lf=none)
  (F:FOk w wh bs fs) (lenf:fs.length=i) (lenb:bs'.length<=2 * i + 2) (wh1:1<=wh) (wh2:wh<=10000000 + 16000000 * i) (hf:Hx lf=some (.lst (fs.map λa=>V.ref a.1))) (hb:Hx lb=some (.lst (List.map V.int bs'))) (nb:lb≠lf) (nbp:lb≠p)
  (rows:∀ a∈fs,Hx a.1=some (.tup (a.2.row.map V.int))) (go:Go p H Hx) (ht:Hx t=none)
  (g0:0<=gap) (g1:gap<=16000000) (o0:0<=one) (o1:one < w) (p0:0<=other) (p1:other < w) (ne:one≠other) (m0:1<=m) (m1:m<=99) (hg:gap=0->one ∉ bs/\other ∉ bs) (hb0:∀ x∈bs,gap=0->x∈bs') (hb1:one∈bs') (hb2:other∈bs') :
  PvM p lf w n H (i + 1) [some (.ref p),some (.int w),some (.int n),some (.ref lf),some (.int (wh + gap)),some (.ref lb),v6,v7,v8,v9,v10,none]
   (upd (upd Hx t (.tup [.int (wh + gap),.int (if other < one then other else one),.int (if other > one then other else one),.int m])) lf (.lst ((fs.map λa=>V.ref a.1)++[.ref t]))):=by
 have ntf:t≠lf:=(xZ hf ht).symm
 refine ⟨v6,v7,v8,v9,v10,wh + gap,lb,bs',fs++[(t,⟨if other < one then other else one,if other > one then other else one,wh + gap,m⟩)],rfl,by rw [xW,zK];rfl,?_,nb,nbp,λa ha=>?_,F.step wh1 g0 o0 o1 p0 p1 ne m0 m1 hg hb0 hb1 hb2,by rw [zE,lenf];rfl,by omega,by omega,by omega,λb u nb e=>?_,?_⟩
 ·rw [xb nb,xb (xZ hb ht)];exact hb
 ·rcases zT.mp ha with h | h
  ·have:=rows a h
   rw [xb (ne_of this hf (by intro z;cases z)),xb (xZ this ht)];exact this
  ·cases zF.mp h
   rw [xb ntf,xW];rfl
 ·rw [xb (xZ e hlf),xb (xZ (go.1 b u nb e) ht)];exact go.1 b u nb e
 ·have:=go.2.new (o:=.tup [.int (wh + gap),.int (if other < one then other else one),.int (if other > one then other else one),.int m]) ht
  obtain ⟨x,y,z,e⟩:=this
  exact ⟨x,y,z,by rw [xb npf.symm];exact e⟩
theorem oth_ok {one x w:Int} (o0:0<=one) (o1:one < w) (x0:0<=x) (x1:x < w - 1):0<=(one + 1 + x) % w/\(one + 1 + x) % w < w/\one≠(one + 1 + x) % w:=by
 refine ⟨yj _ (by omega),yU _ (by omega),?_⟩
 by_cases h:one + 1 + x < w
 ·rw [Int.emod_eq_of_lt (by omega) h];omega
 ·have e:(one + 1 + x) % w=(one + 1 + x - w) % w:=by
   have:one + 1 + x=(one + 1 + x - w) + w:=by omega
   rw [this,Int.add_emod_right];congr 1;omega
  rw [e,Int.emod_eq_of_lt (by omega) (by omega)];omega
theorem Go.same {p:Addr} {H H1 H2:Hp} (a:Go p H H1) (s:Same H1 H2):Go p H H2:=⟨λb u n e=>s b u (a.1 b u n e),by obtain ⟨x,y,z,e⟩:=a.2;exact ⟨x,y,z,s _ _ e⟩⟩
theorem wL {α:Type}{f:α->V}{l:List α}{i:Nat}{x:V} (h:(l.map f)[i]?=some x):∃ r,l[i]?=some r/\x=f r:=by
 rw [zS] at h
 cases e:l[i]? with
 | none=>rw [e] at h;cases h
 | some r=>rw [e] at h;exact ⟨r,rfl,(Option.some.inj h).symm⟩
theorem take_snoc {α:Type}{l:List α}{i:Nat}{r:α} (h:l[i]?=some r):l.take (i + 1)=l.take i++[r]:=by
 rw [List.take_add_one,h];rfl
theorem But.same {p:Addr} {H H1 H2:Hp} (hp:H p=none) (s:Same H H1) (g:But p H1 H2):Same H H2:=λb u e=>g b u (xZ e hp) (s b u e)
theorem Same.put {l:Addr}{H H':Hp}{o:HO} (h:H l=none) (s:Same H H'):Same H (upd H' l o):=λb u e=>by rw [xb (xZ e h)];exact s b u e
theorem BookAt.same {H H':Hp}{b tr tm:Addr}{rooms:List Int}{ps:List (Addr×M4)} (a:BookAt H b rooms tr tm ps) (t:Same H H'):BookAt H' b rooms tr tm ps:=a.tups (Tups.same t)
theorem tyS_lst {H:Hp}{l:Addr}{xs:List V} (h:H l=some (.lst xs)):tyS H (.ref l)=some "list" := by simp only [tyS,h]
def spWhole:Sp:=λvs H Q _=>∃ x t,vs=[x]/\tyS H x=some t/\Q (.bl (t == "int")) H
def inB (lo hi:Int):V->Bool
 | .int i=>decide (lo<=i) && decide (i<=hi)
 | _=>false
def spWithin:Sp:=λvs H Q _=>∃ x t lo hi,vs=[x,.int lo,.int hi]/\tyS H x=some t/\Q (.bl (inB lo hi x)) H
def spTime:Sp:=λvs H Q _=>∃ x t,vs=[x]/\tyS H x=some t/\Q (.bl (inB 0 1000000000 x)) H
theorem tyS_int {H:Hp}{x:V} (h:tyS H x=some "int"):∃ i,x=.int i:=by
 cases x with
 | int i=>exact ⟨i,rfl⟩
 | ref a=>
  unfold tyS at h
  dsimp only at h
  split at h <;> simp at h
 | _=>simp [tyS] at h
theorem inB_no {H:Hp}{x:V}{t:String}{lo hi:Int} (h:tyS H x=some t) (n:¬ t = "int"):inB lo hi x=false:=by
 cases x with
 | int i=>simp [tyS] at h;exact absurd h.symm n
 | _=>rfl
def hasW (w:Int) (r:M4):Bool:=decide (r.lo=w) || decide (r.hi=w)
def numsTo (ms:List M4) (w:Int):Nat->List Int
 | 0=>[]
 | i + 1=>numsTo ms w i++(if (ms[i]?).any (hasW w)=true then [(i:Int)] else [])
theorem inV_two {w a b:Int}:inV (.int w) [.int a,.int b]=(decide (a=w) || decide (b=w)):=by
 simp only [inV,eqV,xB,List.any_nil,Bool.or_false]
 rfl
def cnt (ms:List M4) (t:Int):Nat:=(ms.filter λr=>decide (r.t<=t)).length
theorem cnt_snoc {ms:List M4}{t:Int}{i:Nat}{r:M4} (h:ms[i]?=some r):cnt (ms.take (i + 1)) t=cnt (ms.take i) t + (if r.t<=t then 1 else 0):=by
 unfold cnt
 rw [take_snoc h,List.filter_append,zE]
 congr 1
 by_cases c:r.t<=t <;> simp [c]
def spByTime:Sp:=λvs H Q _=>∃ b t rooms tr tm ps,vs=[.ref b,.int t]/\BookAt H b rooms tr tm ps/\ps.length<=1000/\∀ H',Same H H'->Q (.int (cnt (ps.map (·.2)) t)) H'
end Sm
namespace Sm
open PySem L2 SmSort
def spTimeOf:Sp:=λvs H Q _=>∃ p b j rooms tr tm ps,vs=[.ref p,.ref b,.int j]/\(j=0\/j=1)/\BookAt H b rooms tr tm ps/\Good rooms.length (ps.map (·.2))/\Purse H p/\∀ d H',0<=d->d<=1000000000->Go p H H'->Q (.int d) H'
def spLetter:Sp:=λvs H Q _=>∃ p b rooms tr tm ps,vs=[.ref p,.ref b]/\BookAt H b rooms tr tm ps/\1<=rooms.length/\rooms.length<=1000/\Good rooms.length (ps.map (·.2))/\Purse H p /\
 ∀ t (s a w z:Int) H',Go p H H'->H' t=some (.tup [.int s,.int a,.int w,.int z])->0<=s->s < rooms.length->0<=w->w < rooms.length->0<=a->a<=1000000000->0<=z->z<=1000000000->Q (.ref t) H'
theorem Good.len {w:Int}{ps:List (Addr×M4)} (g:Good w (ps.map (·.2))):ps.length<=60:=by simpa using g.few
theorem Good.at {w:Int}{ps:List (Addr×M4)} (g:Good w (ps.map (·.2))) {r:Addr×M4} (h:r∈ps):0<=r.2.lo/\r.2.lo < r.2.hi/\r.2.hi < w/\1<=r.2.t/\r.2.t<=1000000000/\1<=r.2.m/\r.2.m<=99:=g.each _ (zQ.mpr ⟨r,h,rfl⟩)
end Sm
namespace L2
open PySem PySem.Spec PyProof.Rows
end L2
namespace L2
open PySem PySem.Spec PyProof.Rows
section
variable {X:Cx}
def oV:Option Int->V
 | none=>.non
 | some i=>.int i
end
end L2
namespace Sm
open PySem L2 SmSort
def Th (H:Hp) (x:V) (r:Option (List V)):Prop:=
 (∃ t,tyS H x=some t/\t ≠ "tuple" /\ r=none)\/(∃ a xs,x=.ref a/\H a=some (.tup xs)/\(∀ e∈xs,∃ t,tyS H e=some t)/\r=some xs)
def isLet (w:Int):Option (List V)->Bool
 | some [a,b,c,d]=>inB 0 (w - 1) a && (inB 0 1000000000 b && (inB 0 (w - 1) c && inB 0 1000000000 d))
 | _=>false
def spIsWalker:Sp:=λvs H Q _=>∃ b x t rooms tr tm ps,vs=[.ref b,x]/\BookAt H b rooms tr tm ps/\tyS H x=some t/\Q (.bl (inB 0 ((rooms.length:Int) - 1) x)) H
def spIsLetter:Sp:=λvs H Q _=>∃ b x r rooms tr tm ps,vs=[.ref b,x]/\BookAt H b rooms tr tm ps/\Th H x r/\Q (.bl (isLet rooms.length r)) H
theorem tyS_tup {H:Hp}{l:Addr}{xs:List V} (h:H l=some (.tup xs)):tyS H (.ref l)=some "tuple" := by simp only [tyS,h]
theorem ixN_nat {n k:Nat} (h:k < n):ixN n (k:Int)=some k:=by
 unfold ixN
 rw [if_pos (by omega),if_pos (by omega)];simp
end Sm
namespace L2
open PySem PySem.Spec PyProof.Rows
theorem pick_to {α:Type} (l:List α):∀ n,n<=l.length->(List.range n).filterMap (λk=>l[k]?)=l.take n
 | 0,_=>by simp
 | n + 1,h=>by
  have hn:n < l.length:=h
  rw [yy,List.filterMap_append,pick_to l n (by omega),List.take_add_one]
  simp [hn]
theorem fm_congr {α β:Type}{f g:α->Option β}:∀ {l:List α},(∀ x∈l,f x=g x)->l.filterMap f=l.filterMap g
 | [],_=>rfl
 | x::l,h=>by
  rw [yk,yk,h x (.head _),fm_congr λy hy=>h y (.tail _ hy)]
theorem rev_pick {α:Type} (l:List α):((List.range l.length).map λk:Nat=>((l.length:Int) - 1 + -1 * (k:Int)).toNat).filterMap (λj=>l.toArray[j]?)=l.reverse:=by
 rw [List.filterMap_map]
 have h:=pick_to l.reverse l.length (by simp)
 rw [show l.reverse.take l.length=l.reverse from by rw [<-List.length_reverse];exact zu] at h
 rw [<-h]
 refine fm_congr λk hk=>?_
 have hk':=zl.mp hk
 have e:((l.length:Int) - 1 + -1 * (k:Int)).toNat=l.length - 1 - k:=by omega
 show l.toArray[((l.length:Int) - 1 + -1 * (k:Int)).toNat]?=_
 rw [e,List.getElem?_reverse hk']
 simp
theorem slicePick_rev (its:List Value):slicePick its.toArray none none (some (-1))=its.reverse.toArray:=by
 unfold slicePick
 have e:sliceBounds none none (some (-1)) its.toArray.size=((its.length:Int) - 1,-1,-1):=by
  unfold sliceBounds
  simp
 rw [e]
 have r:sliceRange ((its.length:Int) - 1) (-1) (-1)=(List.range its.length).map λk:Nat=>((its.length:Int) - 1 + -1 * (k:Int)).toNat:=by
  unfold sliceRange
  have c:(if (-1:Int) > 0 then (if (its.length:Int) - 1 < -1 then (-1 - ((its.length:Int) - 1) + -1 - 1) / -1 else 0) else (if (its.length:Int) - 1 > -1 then ((its.length:Int) - 1 - -1 - -1 - 1) / (- -1) else 0))=(its.length:Int):=by
   rw [if_neg (by decide)]
   have e1:(- -1:Int)=1:=by decide
   rw [e1,Int.ediv_one]
   split <;> omega
  simp only [c]
  simp
 rw [r]
 exact congrArg List.toArray (rev_pick its)
section
variable {X:Cx}{e:Expr}{te:TE} {pos p2 p3 p4:Pos}{j:Nat}
def tRevL (K:PySem.W.Frag) (te:TE):TE:=fun σ H Q=>te σ H λx H1=>∃ a xs,x=.ref a/\SqL K H1 a xs/\∀ p,H1 p=none->Q (.ref p) (upd H1 p (.lst xs.reverse))
theorem pe_revL {K:PySem.W.Frag} (hK:X.K=K) (he:PE X e te):PE X (.Subscript e (.Slice none none (some (.UnaryOp .USub (.Constant (.int 1) j p4) p3)) p2) pos) (tRevL K te):=by
 subst hK
 intro pins s σ H Q I h
 refine Subscript_ (thn (he pins s σ H _ I h) λv s1 ⟨x,H1,I1,r1,q1⟩=>?_)
 have st:PO X (some (.UnaryOp .USub (.Constant (.int 1) j p4) p3)) (tPart (tUn (rU λi=>.int (-i)) (tC (.int 1)))):=po_some (pe_un un_neg xY)
 refine wpAny_Slice ?_
 rw [evalPart_none]
 refine wpAny_pure (wpAny_pure ?_)
 refine thn (st pins s1 σ H1 (λo H'=>o=some (-1)/\H'=H1) I1 ⟨1,rfl,-1,rfl,rfl,rfl⟩) λvs s3 h3=>?_
 obtain ⟨o,H',I3,ps,rfl,rfl⟩:=h3
 have I4:Inv X pins σ H' { s3 with heap:=s3.heap.push { cls:=.type "slice", data:=.fields #[.none,.none,vs] } }:=I3.kept (t':=s3.toks) λb ob q=>Heap.get?_push_of_some _ q
 obtain ⟨a,xs,rfl,hx,q⟩:=q1
 cases r1
 obtain ⟨its,r,ht,hz⟩:=I4.list hx
 have hlen:=r.length
 show wpAny (model X.prog X.w) X.A (subscriptTail e (.Slice none none (some (.UnaryOp .USub (.Constant (.int 1) j p4) p3)) p2) (.ref a) (.ref s3.heap.objs.size)) (EP X pins σ Q) X.xe { s3 with heap:=s3.heap.push { cls:=.type "slice", data:=.fields #[.none,.none,vs] } }
 refine tail_any (ops:=[.ref a,.ref s3.heap.objs.size]) ht.isList.typeIs slot_list_getitem.lookup ?_ (by with_unfolding_all rfl)
 refine wpAny_getItem_list_slice ht.isList (Heap.IsSliceOf.new ..) .none .none ps (by simp) ?_ (by rw [zM] <;> omega)
 rw [slicePick_rev]
 refine ⟨.ref _,_,I4.laid (t':=s3.toks) (o:=.lst xs.reverse) (λb ob q=>Heap.get?_push_of_some _ q) (zD _) ?_,rfl,q _ (I4.hok.fresh (zD _))⟩
 exact ⟨by rw [List.length_reverse];exact hz,_,0,r.reverse,Heap.get?_push_size _ rfl⟩
end
end L2
namespace Sm
open PySem L2 SmSort
abbrev Fn:=Nat->Option Int
def put (f:Fn) (k:Nat) (x:Option Int):Fn:=λi=>if i=k then x else f i
theorem put_same {f:Fn}{k:Nat}{x:Option Int}:put f k x k=x:=by unfold put;rw [if_pos rfl]
theorem put_ne {f:Fn}{k i:Nat}{x:Option Int} (h:i≠k):put f k x i=f i:=by unfold put;rw [if_neg h]
def lone (k:Nat) (x:Int):Fn:=λi=>if i=k then some x else none
def below (o:Option Int) (t:Int):Bool:=match o with
 | some y=>decide (y < t)
 | none=>false
theorem below_iff {o:Option Int}{t:Int}:below o t=true↔∃ y,o=some y/\y < t:=by
 cases o <;> simp [below]
def upto (o:Option Int) (t:Int):Bool:=match o with
 | some y=>decide (y<=t)
 | none=>false
theorem upto_iff {o:Option Int}{t:Int}:upto o t=true↔∃ y,o=some y/\y<=t:=by
 cases o <;> simp [upto]
structure W3 where
 g:Nat
 o:Nat
 t:Int
def two (m:M4):List W3:=[⟨m.lo.toNat,m.hi.toNat,m.t⟩,⟨m.hi.toNat,m.lo.toNat,m.t⟩]
def ways2 (ms:List M4):List W3:=ms.flatMap two
def fstep (st:Fn) (x:W3):Fn:=if st x.o=none/\below (st x.g) x.t=true then put st x.o (some x.t) else st
def fwd (ms:List M4) (st:Fn):Fn:=(ways2 ms).foldl fstep st
theorem fstep_some {st:Fn}{x:W3}{i:Nat}{y:Int} (h:st i=some y):fstep st x i=some y:=by
 unfold fstep
 split
 ·rename_i c
  by_cases e:i=x.o
  ·rw [e,c.1] at h;cases h
  ·rw [put_ne e];exact h
 ·exact h
theorem fstep_inv {st:Fn}{x:W3} (hs:∀ i y,st i=some y->y<=x.t\/∀ j,st j≠none->j=i) (hne:x.g≠x.o):∀ i y,fstep st x i=some y->y<=x.t\/∀ j,fstep st x j≠none->j=i:=by
 unfold fstep
 split
 ·rename_i c
  obtain ⟨z,hz,zt⟩:=below_iff.mp c.2
  intro i y h
  by_cases e:i=x.o
  ·rw [e,put_same] at h;cases h;exact .inl (zq _)
  ·rw [put_ne e] at h
   rcases hs i y h with q | q
   ·exact .inl q
   ·have:x.g=i:=q x.g (by rw [hz];simp)
    rw [<-this,hz] at h;cases h
    exact .inl (by omega)
 ·exact hs
def Ord (t:Int) (ms:List M4):Prop:=(∀ m∈ms,t<=m.t/\m.lo.toNat≠m.hi.toNat)/\ms.Pairwise λa b=>a.t<=b.t
theorem Good.ord {w:Int}{ms:List M4} (g:Good w ms):Ord 1 ms:=by
 refine ⟨λm hm=>?_,g.order.imp λh=>?_⟩
 ·obtain ⟨a1,a2,a3,a4,_⟩:=g.each m hm
  exact ⟨a4,by omega⟩
 ·rcases h with h | h
  ·omega
  ·omega
def rep (n:Nat) (f:Fn):List (Option Int):=(List.range n).map f
theorem rep_len (n:Nat) (f:Fn):(rep n f).length=n:=by simp [rep]
theorem rep_get {n k:Nat}{f:Fn} (h:k < n):(rep n f)[k]?=some (f k):=by simp [rep,h]
theorem rep_at {n k:Nat}{f:Fn} (h:k < n):((rep n f).map oV)[k]?=some (oV (f k)):=by rw [zS,rep_get h];rfl
theorem rep_set {n k:Nat}{f:Fn}{x:Option Int} (h:k < n):(rep n f).set k x=rep n (put f k x):=by
 apply List.ext_getElem?
 intro i
 rw [List.getElem?_set]
 by_cases e:k=i
 ·subst e
  rw [if_pos rfl,if_pos (by rw [rep_len];exact h),rep_get h,put_same]
 ·rw [if_neg e]
  by_cases hi:i < n
  ·rw [rep_get hi,rep_get hi,put_ne λz=>e z.symm]
  ·rw [List.getElem?_eq_none (by rw [rep_len];omega),List.getElem?_eq_none (by rw [rep_len];omega)]
structure W4 where
 n:Nat
 w:W3
def W4.vs (x:W4):List V:=[.int x.n,.int x.w.g,.int x.w.o,.int x.w.t]
def waysN (ms:List M4):Nat->List W4
 | 0=>[]
 | i + 1=>waysN ms i++(match ms[i]? with
  | some m=>[⟨i,⟨m.lo.toNat,m.hi.toNat,m.t⟩⟩,⟨i,⟨m.hi.toNat,m.lo.toNat,m.t⟩⟩]
  | none=>[])
theorem waysN_succ {ms:List M4}{i:Nat}{m:M4} (h:ms[i]?=some m):waysN ms (i + 1)=waysN ms i++[⟨i,⟨m.lo.toNat,m.hi.toNat,m.t⟩⟩,⟨i,⟨m.hi.toNat,m.lo.toNat,m.t⟩⟩]:=by
 conv=>lhs;unfold waysN
 rw [h]
theorem waysN_take (ms:List M4):∀ i,i<=ms.length->(waysN ms i).map (·.w)=ways2 (ms.take i)
 | 0,_=>by simp [waysN,ways2]
 | i + 1,h=>by
  have hi:i < ms.length:=h
  have e:ms[i]?=some ms[i]:=by simp [hi]
  rw [waysN_succ e,zK,waysN_take ms i (by omega),take_snoc e]
  unfold ways2
  rw [List.flatMap_append]
  rfl
theorem waysN_all (ms:List M4):(waysN ms ms.length).map (·.w)=ways2 ms:=by rw [waysN_take ms _ (zD _),zu]
theorem ways2_len (ms:List M4):(ways2 ms).length=2 * ms.length:=by
 induction ms with
 | nil=>rfl
 | cons m ms ih=>
  have:ways2 (m::ms)=two m++ways2 ms:=by unfold ways2;rw [List.flatMap_cons]
  rw [this,zE,ih,zW]
  show 2 + _=_
  omega
theorem ways2_mem {w:Int}{ms:List M4} (g:Good w ms) {x:W3} (h:x∈ways2 ms):(x.g:Int) < w/\(x.o:Int) < w/\1<=x.t/\x.t<=1000000000/\x.g≠x.o:=by
 unfold ways2 at h
 obtain ⟨m,hm,hx⟩:=xI.mp h
 obtain ⟨a1,a2,a3,a4,a5,_⟩:=g.each m hm
 unfold two at hx
 simp only [zH,yf,or_false] at hx
 rcases hx with rfl | rfl
 ·exact ⟨by show (m.lo.toNat:Int) < w;omega,by show (m.hi.toNat:Int) < w;omega,a4,a5,by show m.lo.toNat≠m.hi.toNat;omega⟩
 ·exact ⟨by show (m.hi.toNat:Int) < w;omega,by show (m.lo.toNat:Int) < w;omega,a4,a5,by show m.hi.toNat≠m.lo.toNat;omega⟩
theorem oV_non {o:Option Int}:(oV o=.non)↔o=none:=by cases o <;> simp [oV]
def spBelow:Sp:=λvs H Q _=>∃ o t,vs=[oV o,.int t]/\Q (.bl (below o t)) H
def spUpto:Sp:=λvs H Q _=>∃ o t,vs=[oV o,.int t]/\Q (.bl (upto o t)) H
def spLone:Sp:=λvs H Q _=>∃ b,∃ k:Nat,∃ x rooms tr tm ps,vs=[.ref b,.int k,.int x]/\BookAt H b rooms tr tm ps/\rooms.length<=1000/\∀ l H',H l=none->Same H H'->H' l=some (.lst ((rep rooms.length (lone k x)).map oV))->Q (.ref l) H'
def spWays:Sp:=λvs H Q _=>∃ b rooms tr tm ps,vs=[.ref b]/\BookAt H b rooms tr tm ps/\Good rooms.length (ps.map (·.2))/\∀ l (ws:List (Addr×W4)) H',H l=none->Same H H'->H' l=some (.lst (ws.map λa=>V.ref a.1))->(∀ a∈ws,H' a.1=some (.tup a.2.vs))->ws.map (·.2)=waysN (ps.map (·.2)) ps.length->Q (.ref l) H'
def spTimes:Sp:=λvs H Q _=>∃ b,∃ k:Nat,∃ x rooms tr tm ps,vs=[.ref b,.int k,.int x]/\k < rooms.length/\BookAt H b rooms tr tm ps/\rooms.length<=1000/\Good rooms.length (ps.map (·.2))/\∀ l H',H l=none->Same H H'->H' l=some (.lst ((rep rooms.length (fwd (ps.map (·.2)) (lone k x))).map oV))->Q (.ref l) H'
end Sm
namespace L2
open PySem PySem.Spec PyProof.Rows
section
variable {n:Nat}{caps:List Nat}{g:TG}{tc:TT}{te:TE}{σ:St}{H:Hp}{Qf:Addr->Hp->List V->Prop}
theorem comp_range {lo:Int}{m:Nat} (Pv:Nat->St->List V->Hp->Prop) (h0:Pv 0 (tau0 n caps σ) [] H) (hn:m<=1000) (hl:∀ i τ acc H,Pv i τ acc H->acc.length<=i)
  (hs:∀ i τ acc H (C:St->List V->Hp->Prop),i < m->Pv i τ acc H->(∀ τ acc H,Pv (i + 1) τ acc H->C τ acc H)->g (.int (lo + i)) τ H fun τ2 H2=>tc τ2 H2 λb H3=>if b=true then te τ2 H3 λy H4=>C τ2 (acc++[y]) H4 else C τ2 acc H3)
  (hd:∀ τ acc H,Pv m τ acc H->∀ p,H p=none->Qf p H acc) :
  ∃ W:Nat->Nat->St->List V->Hp->Prop,(∃ m,W 0 m (tau0 n caps σ) [] H)/\∀ i m' τ acc H,W i m' τ acc H ->
   ((Itr lo m).stop i H/\acc.length<=sizeLine/\∀ p,H p=none->Qf p H acc) \/
   ((Itr lo m).go i H/\acc.length < sizeLine/\∀ x H',(Itr lo m).yld i H x H'->g x τ H' fun τ2 H2=>tc τ2 H2 λb H3=>if b=true then te τ2 H3 λy H4=>∃ m'',m'' < m'/\W (i + 1) m'' τ2 (acc++[y]) H4 else ∃ m'',m'' < m'/\W (i + 1) m'' τ2 acc H3):=
 comp_of (J:=Itr lo m) Pv m h0 hn hl (λi τ acc H hi p=>hi) (fun τ acc H p=>zD _)
  (λi τ acc H C hi p c x H' y=>by obtain ⟨e1,e2⟩:=y;subst e1;subst e2;exact hs i τ acc _ C hi p c) hd
end
end L2
namespace Sm
open PySem L2 SmSort
def run (ws:List W3) (st:Fn):Fn:=ws.foldl fstep st
theorem run_keep:∀ {ws:List W3}{st:Fn}{i:Nat}{y:Int},st i=some y->run ws st i=some y
 | [],_,_,_,h=>h
 | w::ws,st,i,y,h=>run_keep (ws:=ws) (fstep_some h)
theorem run_from:∀ {ws:List W3}{st:Fn}{i:Nat}{t:Int},run ws st i=some t->st i=none->∃ x∈ws,x.o=i/\x.t=t/\∃ y,run ws st x.g=some y/\y < t
 | [],st,i,t,h,h0=>by
  have:st i=some t:=h
  rw [h0] at this;cases this
 | w::ws,st,i,t,h,h0=>by
  have h':run ws (fstep st w) i=some t:=h
  cases e:fstep st w i with
  | none=>
   obtain ⟨x,hx,a,b,y,hy,lt⟩:=run_from h' e
   exact ⟨x,.tail _ hx,a,b,y,hy,lt⟩
  | some z=>
   have z':=run_keep (ws:=ws) e
   rw [h'] at z';cases z'
   unfold fstep at e
   split at e
   ·rename_i c
    by_cases io:i=w.o
    ·subst io
     rw [put_same] at e;cases e
     obtain ⟨y,hy,lt⟩:=below_iff.mp c.2
     exact ⟨w,.head _,rfl,rfl,y,run_keep (ws:=w::ws) hy,lt⟩
    ·rw [put_ne io,h0] at e;cases e
   ·rw [h0] at e;cases e
theorem run_closed:∀ {ws:List W3}{st:Fn},(∀ x∈ws,x.g≠x.o)->ws.Pairwise (λa b=>a.t<=b.t)->(∀ x∈ws,∀ i y,st i=some y->y<=x.t\/∀ j,st j≠none->j=i) ->
  ∀ x∈ws,∀ y,run ws st x.g=some y->y < x.t->∃ e,run ws st x.o=some e/\e<=x.t
 | w::ws,st,ne,pw,hs,x,hx,y,hy,lt=>by
  obtain ⟨p1,p2⟩:=List.pairwise_cons.mp pw
  rcases zH.mp hx with rfl | hx
  ·cases e:st x.g with
   | none=>
    obtain ⟨z,hz,a,b,_⟩:=run_from (ws:=x::ws) hy e
    rcases zH.mp hz with rfl | hz
    ·exact absurd a.symm (ne z (.head _))
    ·have:=p1 z hz
     omega
   | some z=>
    have:=run_keep (ws:=x::ws) e
    rw [hy] at this;cases this
    cases eo:st x.o with
    | none=>
     refine ⟨x.t,?_,zq _⟩
     show run ws (fstep st x) x.o=some x.t
     refine run_keep ?_
     unfold fstep
     rw [if_pos ⟨eo,below_iff.mpr ⟨y,e,lt⟩⟩,put_same]
    | some z=>
     refine ⟨z,run_keep (ws:=x::ws) eo,?_⟩
     rcases hs x (.head _) _ _ eo with q | q
     ·exact q
     ·exact absurd (q x.g (by rw [e];simp)) (ne x (.head _))
  ·refine run_closed (ws:=ws) (st:=fstep st w) (λa ha=>ne a (.tail _ ha)) p2 (λa ha i z hz=>?_) x hx y hy lt
   have base:∀ i y,st i=some y->y<=w.t\/∀ j,st j≠none->j=i:=hs w (.head _)
   rcases fstep_inv (x:=w) base (ne w (.head _)) i z hz with q | q
   ·exact .inl (Int.le_trans q (p1 a ha))
   ·exact .inr q
theorem ways2_pw:∀ {ms:List M4},ms.Pairwise (λa b=>a.t<=b.t)->(ways2 ms).Pairwise (λa b=>a.t<=b.t)
 | [],_=>.nil
 | m::ms,h=>by
  obtain ⟨h1,h2⟩:=List.pairwise_cons.mp h
  have e:ways2 (m::ms)=two m++ways2 ms:=by unfold ways2;rw [List.flatMap_cons]
  rw [e,List.pairwise_append]
  refine ⟨?_,ways2_pw h2,λa ha b hb=>?_⟩
  ·unfold two
   refine .cons (λx hx=>?_) (List.pairwise_singleton _ _)
   cases zF.mp hx;exact zq _
  ·have ta:a.t=m.t:=by
    unfold two at ha
    simp only [zH,yf,or_false] at ha
    rcases ha with rfl | rfl <;> rfl
   unfold ways2 at hb
   obtain ⟨r,hr,hx⟩:=xI.mp hb
   have tb:b.t=r.t:=by
    unfold two at hx
    simp only [zH,yf,or_false] at hx
    rcases hx with rfl | rfl <;> rfl
   rw [ta,tb];exact h1 r hr
structure Early (w:Nat) (ws:List W3) (s:Nat) (x:Int) (E:Fn):Prop where
 self:E s=some x
 orig:∀ i t,i≠s->E i=some t->∃ a∈ws,a.o=i/\a.t=t/\∃ y,E a.g=some y/\y < t
 clos:∀ a∈ws,∀ y,E a.g=some y->y < a.t->∃ e,E a.o=some e/\e<=a.t
 inside:∀ a∈ws,a.g < w/\a.o < w
theorem early_fwd {n s:Nat}{x:Int}{ms:List M4} (g:Good n ms):Early n (ways2 ms) s x (fwd ms (lone s x)):=by
 refine ⟨?_,λi t ne h=>?_,?_,λa ha=>?_⟩
 ·exact run_keep (ws:=ways2 ms) (by simp [lone])
 ·exact run_from (ws:=ways2 ms) h (by simp [lone,ne])
 ·refine run_closed (λa ha=>(ways2_mem g ha).2.2.2.2) (ways2_pw g.ord.2) (λa ha i y h=>.inr λj hj=>?_)
  unfold lone at h hj
  by_cases e:i=s
  ·by_cases e':j=s
   ·rw [e,e']
   ·rw [if_neg e'] at hj;exact absurd rfl hj
  ·rw [if_neg e] at h;cases h
 ·obtain ⟨a1,a2,_⟩:=ways2_mem g ha
  omega
def rankE (n:Nat) (E:Fn) (t:Int):Nat:=(List.range n).countP λj=>below (E j) t
end Sm
namespace L2
open PySem PySem.Spec PyProof.Rows
section
variable {X:Cx}{pins:List (Addr×Obj)}{σ:St}{H:Hp}{s:Shared}
theorem Inv.keptAll {m:Str->Option Value}{h':Heap}{tk:Nat} (I:Inv X pins σ H s) (F0:Fr X.base X.env.locals s.heap m) (F:Fr X.base X.env.locals h' m)
  (N:News X.base X.env.locals h' (allNews X.base s.heap X.env.locals)):Inv X pins σ H { s with heap:=h',toks:=tk }:=by
 have keep:∀ b o,b≠X.env.locals->s.heap.get? b=some o->h'.get? b=some o:=λb o hb e=>by
  cases q:X.base.get? b with
  | some u=>
   have:=I.bk b u q
   rw [e] at this;cases this
   exact F.keep b _ q
  | none=>exact (N (b,o) (mem_allNews hb q e)).1
 refine I.step (g':=s.gens) (t':=tk) (d':=s.drawn) (ch:=[]) (λ_ z=>nomatch z) (λb o hb _ _ e _=>keep b o hb e) (λb o hb _ _ e _=>⟨o.slots,keep b o hb e⟩) (λb o _ e n=>n) (λb o _ e=>?_)
  (λb ys e=>e) (λb o u e=>e) (λb ps e=>⟨#[],by rw [e,Array.append_empty]⟩) (λm' hm=>?_) (λb u e=>?_) I.bare
 ·by_cases hb:b=X.env.locals
  ·obtain ⟨o',_,_,q,_⟩:=F.ns
   exact ⟨o',by rw [hb];exact q⟩
  ·exact ⟨o,keep b o hb e⟩
 ·obtain ⟨o1,es1,ep1,e1,d1,k1,f1⟩:=hm
  obtain ⟨o2,es2,ep2,e2,d2,k2,f2⟩:=F0.ns
  rw [e1] at e2;cases e2
  rw [d1] at d2;cases d2
  obtain ⟨o3,es3,ep3,e3,d3,k3,f3⟩:=F.ns
  exact ⟨o3,es3,ep3,e3,d3,k3,λname=>(f3 name).trans ((f2 name).symm.trans (f1 name))⟩
 ·refine (I.hok b u e).stay (λc v hc q=>keep c v (λz=>?_) q) (λc q=>q) λc ys q=>q
  rcases hc with rfl | hc
  ·rw [z,I.free] at e;cases e
  ·rw [z,I.free] at hc;cases hc
theorem bools_of:∀ {bs:List Bool}{us:List Value},Vals (bs.map V.bl) us->LSm.BoolsAre us bs
 | [],us,r=>by cases r;exact .nil
 | b::bs,us,r=>by
  cases r with
  | cons x y=>
   cases x
   exact .cons b (bools_of y)
theorem call_all {K:PySem.W.Frag} (hK:X.K=K) (hc:X.calm=true):CallR X (.builtin "all") (λxs H Q=>∃ p,∃ bs:List Bool,xs=[.ref p]/\SqL K H p (bs.map V.bl)/\Q (.bl (bs.all id)) H):=by
 subst hK
 intro pins s σ H xs us Q I r h
 obtain ⟨p,bs,rfl,hq,q⟩:=h
 obtain ⟨u,rfl,rx⟩:=vals1 r
 cases rx
 obtain ⟨its,r',pl,hz⟩:=I.list hq
 obtain ⟨m,F⟩:=I.fr
 exact LSm.all_bools F (news_all (g:=X.base) (h:=s.heap)) (I.ok.hd hc) pl.isList (bools_of r') λh' tk F' N'=>⟨.bl _,H,I.keptAll F F' N',rfl,q⟩
end
end L2
namespace Sm
open PySem L2 SmSort
end Sm
namespace Sm
open PySem L2 SmSort
theorem ixt {K:PySem.W.Frag}{H:Hp}{a:Addr}{xs:List V}{i:Int}{v:V}{Q:V->Prop} (h:H a=some (.tup xs)) (hi:atI xs i=some v) (q:Q v):∃ p xs' i' v',V.ref a=.ref p/\V.int i=.int i'/\SqT K H p xs'/\atI xs' i'=some v'/\Q v':=⟨a,xs,i,v,rfl,rfl,SqT.of h,hi,q⟩
theorem ixl {K:PySem.W.Frag}{H:Hp}{a:Addr}{xs:List V}{i:Int}{v:V}{Q:V->Prop} (h:H a=some (.lst xs)) (hi:atI xs i=some v) (q:Q v):∃ p xs' i' v',V.ref a=.ref p/\V.int i=.int i'/\SqL K H p xs'/\atI xs' i'=some v'/\Q v':=⟨a,xs,i,v,rfl,rfl,SqL.of h,hi,q⟩
theorem us1 {fd:FuncData}{ps:List Str}{us:List Value} (h:us.length=1) (q:∀ a,bindArgs fd ⟨[a],[]⟩=pure (ps.zip [a])):bindArgs fd ⟨us,[]⟩=pure (ps.zip us):=match us,h with | [a],_=>q a
theorem us2 {fd:FuncData}{ps:List Str}{us:List Value} (h:us.length=2) (q:∀ a b,bindArgs fd ⟨[a,b],[]⟩=pure (ps.zip [a,b])):bindArgs fd ⟨us,[]⟩=pure (ps.zip us):=match us,h with | [a,b],_=>q a b
theorem us3 {fd:FuncData}{ps:List Str}{us:List Value} (h:us.length=3) (q:∀ a b c,bindArgs fd ⟨[a,b,c],[]⟩=pure (ps.zip [a,b,c])):bindArgs fd ⟨us,[]⟩=pure (ps.zip us):=match us,h with | [a,b,c],_=>q a b c
theorem us4 {fd:FuncData}{ps:List Str}{us:List Value} (h:us.length=4) (q:∀ a b c d,bindArgs fd ⟨[a,b,c,d],[]⟩=pure (ps.zip [a,b,c,d])):bindArgs fd ⟨us,[]⟩=pure (ps.zip us):=match us,h with | [a,b,c,d],_=>q a b c d
theorem ex5 {α0 α1 α2 α3 α4:Type}{P:α0->α1->α2->α3->α4->Prop} (x0:α0) (x1:α1) (x2:α2) (x3:α3) (x4:α4) (h:P x0 x1 x2 x3 x4):∃ y0:α0,∃ y1:α1,∃ y2:α2,∃ y3:α3,∃ y4:α4,P y0 y1 y2 y3 y4:=⟨x0,x1,x2,x3,x4,h⟩
theorem ex6 {α0 α1 α2 α3 α4 α5:Type}{P:α0->α1->α2->α3->α4->α5->Prop} (x0:α0) (x1:α1) (x2:α2) (x3:α3) (x4:α4) (x5:α5) (h:P x0 x1 x2 x3 x4 x5):∃ y0:α0,∃ y1:α1,∃ y2:α2,∃ y3:α3,∃ y4:α4,∃ y5:α5,P y0 y1 y2 y3 y4 y5:=⟨x0,x1,x2,x3,x4,x5,h⟩
theorem ex7 {α0 α1 α2 α3 α4 α5 α6:Type}{P:α0->α1->α2->α3->α4->α5->α6->Prop} (x0:α0) (x1:α1) (x2:α2) (x3:α3) (x4:α4) (x5:α5) (x6:α6) (h:P x0 x1 x2 x3 x4 x5 x6):∃ y0:α0,∃ y1:α1,∃ y2:α2,∃ y3:α3,∃ y4:α4,∃ y5:α5,∃ y6:α6,P y0 y1 y2 y3 y4 y5 y6:=⟨x0,x1,x2,x3,x4,x5,x6,h⟩
theorem ex8 {α0 α1 α2 α3 α4 α5 α6 α7:Type}{P:α0->α1->α2->α3->α4->α5->α6->α7->Prop} (x0:α0) (x1:α1) (x2:α2) (x3:α3) (x4:α4) (x5:α5) (x6:α6) (x7:α7) (h:P x0 x1 x2 x3 x4 x5 x6 x7):∃ y0:α0,∃ y1:α1,∃ y2:α2,∃ y3:α3,∃ y4:α4,∃ y5:α5,∃ y6:α6,∃ y7:α7,P y0 y1 y2 y3 y4 y5 y6 y7:=⟨x0,x1,x2,x3,x4,x5,x6,x7,h⟩
theorem ex10 {α0 α1 α2 α3 α4 α5 α6 α7 α8 α9:Type}{P:α0->α1->α2->α3->α4->α5->α6->α7->α8->α9->Prop} (x0:α0) (x1:α1) (x2:α2) (x3:α3) (x4:α4) (x5:α5) (x6:α6) (x7:α7) (x8:α8) (x9:α9) (h:P x0 x1 x2 x3 x4 x5 x6 x7 x8 x9):∃ y0:α0,∃ y1:α1,∃ y2:α2,∃ y3:α3,∃ y4:α4,∃ y5:α5,∃ y6:α6,∃ y7:α7,∃ y8:α8,∃ y9:α9,P y0 y1 y2 y3 y4 y5 y6 y7 y8 y9:=⟨x0,x1,x2,x3,x4,x5,x6,x7,x8,x9,h⟩
theorem ex11 {α0 α1 α2 α3 α4 α5 α6 α7 α8 α9 α10:Type}{P:α0->α1->α2->α3->α4->α5->α6->α7->α8->α9->α10->Prop} (x0:α0) (x1:α1) (x2:α2) (x3:α3) (x4:α4) (x5:α5) (x6:α6) (x7:α7) (x8:α8) (x9:α9) (x10:α10) (h:P x0 x1 x2 x3 x4 x5 x6 x7 x8 x9 x10):∃ y0:α0,∃ y1:α1,∃ y2:α2,∃ y3:α3,∃ y4:α4,∃ y5:α5,∃ y6:α6,∃ y7:α7,∃ y8:α8,∃ y9:α9,∃ y10:α10,P y0 y1 y2 y3 y4 y5 y6 y7 y8 y9 y10:=⟨x0,x1,x2,x3,x4,x5,x6,x7,x8,x9,x10,h⟩
theorem ex12 {α0 α1 α2 α3 α4 α5 α6 α7 α8 α9 α10 α11:Type}{P:α0->α1->α2->α3->α4->α5->α6->α7->α8->α9->α10->α11->Prop} (x0:α0) (x1:α1) (x2:α2) (x3:α3) (x4:α4) (x5:α5) (x6:α6) (x7:α7) (x8:α8) (x9:α9) (x10:α10) (x11:α11) (h:P x0 x1 x2 x3 x4 x5 x6 x7 x8 x9 x10 x11):∃ y0:α0,∃ y1:α1,∃ y2:α2,∃ y3:α3,∃ y4:α4,∃ y5:α5,∃ y6:α6,∃ y7:α7,∃ y8:α8,∃ y9:α9,∃ y10:α10,∃ y11:α11,P y0 y1 y2 y3 y4 y5 y6 y7 y8 y9 y10 y11:=⟨x0,x1,x2,x3,x4,x5,x6,x7,x8,x9,x10,x11,h⟩
theorem ex13 {α0 α1 α2 α3 α4 α5 α6 α7 α8 α9 α10 α11 α12:Type}{P:α0->α1->α2->α3->α4->α5->α6->α7->α8->α9->α10->α11->α12->Prop} (x0:α0) (x1:α1) (x2:α2) (x3:α3) (x4:α4) (x5:α5) (x6:α6) (x7:α7) (x8:α8) (x9:α9) (x10:α10) (x11:α11) (x12:α12) (h:P x0 x1 x2 x3 x4 x5 x6 x7 x8 x9 x10 x11 x12):∃ y0:α0,∃ y1:α1,∃ y2:α2,∃ y3:α3,∃ y4:α4,∃ y5:α5,∃ y6:α6,∃ y7:α7,∃ y8:α8,∃ y9:α9,∃ y10:α10,∃ y11:α11,∃ y12:α12,P y0 y1 y2 y3 y4 y5 y6 y7 y8 y9 y10 y11 y12:=⟨x0,x1,x2,x3,x4,x5,x6,x7,x8,x9,x10,x11,x12,h⟩
theorem ex17 {α0 α1 α2 α3 α4 α5 α6 α7 α8 α9 α10 α11 α12 α13 α14 α15 α16:Type}{P:α0->α1->α2->α3->α4->α5->α6->α7->α8->α9->α10->α11->α12->α13->α14->α15->α16->Prop} (x0:α0) (x1:α1) (x2:α2) (x3:α3) (x4:α4) (x5:α5) (x6:α6) (x7:α7) (x8:α8) (x9:α9) (x10:α10) (x11:α11) (x12:α12) (x13:α13) (x14:α14) (x15:α15) (x16:α16) (h:P x0 x1 x2 x3 x4 x5 x6 x7 x8 x9 x10 x11 x12 x13 x14 x15 x16):∃ y0:α0,∃ y1:α1,∃ y2:α2,∃ y3:α3,∃ y4:α4,∃ y5:α5,∃ y6:α6,∃ y7:α7,∃ y8:α8,∃ y9:α9,∃ y10:α10,∃ y11:α11,∃ y12:α12,∃ y13:α13,∃ y14:α14,∃ y15:α15,∃ y16:α16,P y0 y1 y2 y3 y4 y5 y6 y7 y8 y9 y10 y11 y12 y13 y14 y15 y16:=⟨x0,x1,x2,x3,x4,x5,x6,x7,x8,x9,x10,x11,x12,x13,x14,x15,x16,h⟩
theorem un2 {K:PySem.W.Frag}{H:Hp}{a:Addr} {v0 v1:V}{Q:V->V->Prop} (h:H a=some (.tup [v0,v1])) (q:Q v0 v1):∃ a' xs,V.ref a=.ref a'/\SqT K H a' xs/\xs.length=2/\∃ w0 r0,xs=w0::r0/\∃ w1 r1,r0=w1::r1/\r1=[]/\Q w0 w1:=⟨a,_,rfl,SqT.of h,rfl,_,_,rfl,_,_,rfl,rfl,q⟩
theorem un4 {K:PySem.W.Frag}{H:Hp}{a:Addr} {v0 v1 v2 v3:V}{Q:V->V->V->V->Prop} (h:H a=some (.tup [v0,v1,v2,v3])) (q:Q v0 v1 v2 v3):∃ a' xs,V.ref a=.ref a'/\SqT K H a' xs/\xs.length=4/\∃ w0 r0,xs=w0::r0/\∃ w1 r1,r0=w1::r1/\∃ w2 r2,r1=w2::r2/\∃ w3 r3,r2=w3::r3/\r3=[]/\Q w0 w1 w2 w3:=⟨a,_,rfl,SqT.of h,rfl,_,_,rfl,_,_,rfl,_,_,rfl,_,_,rfl,rfl,q⟩
theorem zr {α:Sort _}{A Q:α->Prop}{x:α} (a:A x) (q:Q x):∃ y,A y/\Q y:=⟨x,a,q⟩
theorem zr1 {α β:Sort _}{A Q:α->β->Prop}{x:α}{y:β} (a:A x y) (q:Q x y):∃ x y,A x y/\Q x y:=⟨x,y,a,q⟩
theorem zr2 {α β:Sort _}{A B Q:α->β->Prop}{x:α}{y:β} (a:A x y) (b:B x y) (q:Q x y):∃ x y,A x y/\B x y/\Q x y:=⟨x,y,a,b,q⟩
end Sm
namespace L2
open PySem PySem.Spec PyProof.Rows
section
variable {X:Cx}
theorem fills_list_iadd:fillsInplaceSlot (.type "list") "add" true=pure false:=by
 show (do let fi <- typeLookup (.type "list") (dunderI "add");pure (fi.isSome && !isSeqSlot fi))=_
 rw [F.slot_list_iadd.lookup];rfl
theorem seq_list_iadd:seqSlot? (.type "list") (dunderI "add")=pure (some (.builtin "list.__iadd__")):=by
 unfold seqSlot?
 rw [F.slot_list_iadd.lookup];rfl
theorem wp_iadd_list {prog:Program}{w:World}{A:Around}{E:Value->Shared->Prop}{s:Shared}{a b:Value}{Q:Value->Shared->Prop} (ta:s.TypeIs a "list") (tb:s.TypeIs b "list") (h:wpAny (model prog w) A (call (.builtin "list.__iadd__") [a,b]) Q E s):wpAny (model prog w) A (inplaceOp .Add a b) Q E s:=by
 unfold inplaceOp
 refine wpAny_holding (wpAny_bind (wpAny_typeOf ta (wpAny_bind (wpAny_of_eq fills_list_iadd ?_))))
 dsimp only
 rw [if_neg zJ]
 refine wpAny_bind (wpAny_binaryOp1_none ta tb noFill_list_add ?_)
 dsimp only
 refine wpAny_bind (wpAny_of_eq seq_list_iadd ?_)
 dsimp only
 exact wpAny_bind (wpAny_rule h)
theorem ip_cat:PIp X .Add (λx y H Q=>∃ l b xs zs,x=.ref l/\y=.ref b/\H l=some (.lst xs)/\H b=some (.lst zs)/\xs.length + zs.length<=sizeLine/\Q (.ref l) (upd H l (.lst (xs++zs)))):=by
 intro pins s σ H x y v u Q I rx ry h
 obtain ⟨l,b,xs,zs,rfl,rfl,hH,hB,hz,q⟩:=h
 cases rx
 cases ry
 obtain ⟨z,its,n,r,hl,e⟩:=I.lstM hH
 obtain ⟨z2,its2,n2,r2,hl2,e2⟩:=I.lstM hB
 have hsz:its.toArray.size + its2.toArray.size<=sizeLine:=by rw [zM,zM];omega
 have hlong:¬ (!its.toArray.isEmpty && Builtin.List.listTooLong (its.toArray.size + its2.toArray.size))=true:=by
  rw [notLongL hsz,xD]
  exact zJ
 refine wp_iadd_list ⟨_,e,rfl⟩ ⟨_,e2,rfl⟩ (call_meets F.slot_list_iadd ⟨_,e,rfl⟩ F.entry_list_iadd (F.args_list_iadd_2 _ _)
  (AutoSeq1.list___iadd___list_list_0 l its.toArray n b its2.toArray n2 hlong (by rw [zM];omega) (by omega)) ⟨e,e2,?_⟩)
 refine ⟨.ref l,_,I.lset (its':=its++its2) hH e (by simp) (r.append r2) ?_,rfl,q⟩
 rw [zE]
 omega
end
end L2
namespace Sm
open PySem L2 SmSort
def Link (ms:List M4) (n g o:Nat) (t:Int):Prop:=∃ m,ms[n]?=some m/\m.t=t/\((m.lo.toNat=g/\m.hi.toNat=o)\/(m.lo.toNat=o/\m.hi.toNat=g))
theorem waysN_link {ms:List M4}:∀ {i:Nat}{x:W4},x∈waysN ms i->Link ms x.n x.w.g x.w.o x.w.t
 | 0,x,h=>by cases h
 | i + 1,x,h=>by
  unfold waysN at h
  rcases zT.mp h with h | h
  ·exact waysN_link h
  ·cases e:ms[i]? with
   | none=>rw [e] at h;cases h
   | some m=>
    rw [e] at h
    simp only [zH,yf,or_false] at h
    rcases h with rfl | rfl
    ·exact ⟨m,e,rfl,.inl ⟨rfl,rfl⟩⟩
    ·exact ⟨m,e,rfl,.inr ⟨rfl,rfl⟩⟩
def Came (ms:List M4) (k:Nat) (f:Fn) (kvs:List (Key×V)) (H:Hp):Prop:=
 ∀ o t,f o=some t->o=k\/∃ tt n g y,valV kvs (Sum.inl (o:Int))=some (.ref tt)/\H tt=some (.tup [.int ((n:Nat):Int),.int ((g:Nat):Int)])/\Link ms n g o t/\f g=some y/\y < t
theorem Came.tups {ms:List M4}{k:Nat}{f:Fn}{kvs:List (Key×V)}{H H':Hp} (c:Came ms k f kvs H) (t:Tups H H'):Came ms k f kvs H':=λo x h=>by
 rcases c o x h with e | ⟨tt,n,g,y,a1,a2,a3,a4,a5⟩
 ·exact .inl e
 ·exact .inr ⟨tt,n,g,y,a1,t _ _ a2,a3,a4,a5⟩
theorem Came.step {ms:List M4}{k:Nat}{f:Fn}{kvs:List (Key×V)}{H:Hp}{tt:Addr}{x:W4} (c:Came ms k f kvs H) (ho:f x.w.o=none) (hb:below (f x.w.g) x.w.t=true) (hl:Link ms x.n x.w.g x.w.o x.w.t)
  (ht:H tt=some (.tup [.int (x.n:Int),.int (x.w.g:Int)])):Came ms k (put f x.w.o (some x.w.t)) (putK kvs (Sum.inl (x.w.o:Int)) (.ref tt)) H:=λo t h=>by
 have keep:∀ g y,f g=some y->put f x.w.o (some x.w.t) g=some y:=λg y e=>by rw [put_ne λz=>by rw [z,ho] at e;cases e];exact e
 by_cases e:o=x.w.o
 ·subst e
  rw [put_same] at h;cases h
  obtain ⟨y,hy,lt⟩:=below_iff.mp hb
  exact .inr ⟨tt,x.n,x.w.g,y,by rw [valV_put,if_pos rfl],ht,hl,keep _ _ hy,lt⟩
 ·rw [put_ne e] at h
  rcases c o t h with e' | ⟨t2,n,g,y,a1,a2,a3,a4,a5⟩
  ·exact .inl e'
  ·refine .inr ⟨t2,n,g,y,?_,a2,a3,keep _ _ a4,a5⟩
   rw [valV_put,if_neg λz=>e (by have:=Sum.inl.inj z;omega)]
   exact a1
def spFirst2:Sp:=λvs H Q _=>∃ b,∃ k:Nat,∃ x rooms tr tm ps,vs=[.ref b,.int k,.int x]/\BookAt H b rooms tr tm ps/\rooms.length<=1000/\Good rooms.length (ps.map (·.2))/\∀ t l d kvs H',H l=none->Same H H'->H' t=some (.tup [.ref l,.ref d])->H' l=some (.lst ((rep rooms.length (fwd (ps.map (·.2)) (lone k x))).map oV))->H' d=some (.dK kvs)->Came (ps.map (·.2)) k (fwd (ps.map (·.2)) (lone k x)) kvs H'->Q (.ref t) H'
def walkM (ms:List M4):Nat->Int->Int->List Int->Option (Nat×Int)
 | v,t,_,[]=>some (v,t)
 | v,t,a,n::ns=>match ms[n.toNat]? with
  | none=>none
  | some m=>if a < n/\0<=n/\(v=m.lo.toNat\/v=m.hi.toNat)/\t < m.t then walkM ms (if v=m.lo.toNat then m.hi.toNat else m.lo.toNat) m.t n ns else none
theorem walk_cons {ms:List M4}{n g o:Nat}{y t a:Int}{ns:List Int} (h:Link ms n g o t) (ne:g≠o) (lt:y < t) (ha:a < n):walkM ms g y a ((n:Int)::ns)=walkM ms o t n ns:=by
 obtain ⟨m,hm,rfl,h⟩:=h
 conv=>lhs;unfold walkM
 rw [show ((n:Int)).toNat=n from by simp,hm]
 dsimp only
 rcases h with ⟨rfl,rfl⟩ | ⟨rfl,rfl⟩
 ·rw [if_pos ⟨ha,by omega,.inl rfl,lt⟩,if_pos rfl]
 ·rw [if_pos ⟨ha,by omega,.inr rfl,lt⟩,if_neg λz=>ne z]
theorem Tups.setD {l:Addr}{H:Hp}{kvs:List (Key×V)}{o:HO} (h:H l=some (.dK kvs)):Tups H (upd H l o):=λb u e=>by rw [xb (ne_of e h (by intro z;cases z))];exact e
theorem idx_lt {ms:List M4} (o:ms.Pairwise λa b=>a.t<=b.t) {i j:Nat}{a b:M4} (hi:ms[i]?=some a) (hj:ms[j]?=some b) (lt:a.t < b.t):i < j:=by
 obtain ⟨h1,e1⟩:=zB.mp hi
 obtain ⟨h2,e2⟩:=zB.mp hj
 rcases Nat.lt_trichotomy i j with h | h | h
 ·exact h
 ·subst h;rw [e1] at e2;rw [e2] at lt;omega
 ·have:=zp.mp o j i h2 h1 h
  rw [e1,e2] at this
  omega
def mu (n:Nat) (E:Fn) (σ:St):Nat:=match σ[9]? with
 | some (some (V.int v))=>(match E v.toNat with
  | some e=>rankE n E e
  | none=>0)
 | _=>0
theorem rank_lt {n:Nat}{E:Fn}{g:Nat}{y t:Int} (hg:g < n) (hy:E g=some y) (lt:y < t):rankE n E y < rankE n E t:=
 countP_lt (λj hj=>by
  obtain ⟨z,hz,l⟩:=below_iff.mp hj
  exact below_iff.mpr ⟨z,hz,by omega⟩) (zl.mpr hg) (by
   cases c:below (E g) y with
   | false=>rfl
   | true=>
    obtain ⟨z,hz,l⟩:=below_iff.mp c
    rw [hy] at hz;cases hz;omega) (below_iff.mpr ⟨y,hy,lt⟩)
theorem rank_le (n:Nat) (E:Fn) (t:Int):rankE n E t<=n:=by
 unfold rankE
 have:=List.countP_le_length (p:=λj=>below (E j) t) (l:=List.range n)
 rw [yD] at this
 exact this
theorem Link.inside {n g o w:Nat}{t:Int}{ms:List M4} (g0:Good w ms) (h:Link ms n g o t):g < w/\o < w/\g≠o:=by
 obtain ⟨m,hm,_,h⟩:=h
 obtain ⟨a1,a2,a3,_⟩:=g0.each m (zC hm)
 rcases h with ⟨rfl,rfl⟩ | ⟨rfl,rfl⟩ <;> omega
def LetAt (H:Hp) (lt:Addr) (n s w:Nat) (a z:Int):Prop:=H lt=some (.tup [.int (s:Int),.int a,.int (w:Int),.int z])/\s < n/\w < n/\0<=a/\a<=1000000000/\0<=z/\z<=1000000000
theorem LetAt.same {H H':Hp}{lt:Addr}{n s w:Nat}{a z:Int} (h:LetAt H lt n s w a z) (e:Same H H'):LetAt H' lt n s w a z:=⟨e _ _ h.1,h.2⟩
theorem LetAt.th {H:Hp}{lt:Addr}{n s w:Nat}{a z:Int} (h:LetAt H lt n s w a z):Th H (.ref lt) (some [.int (s:Int),.int a,.int (w:Int),.int z]):=.inr ⟨lt,_,rfl,h.1,λe he=>by
 simp only [zH,yf,or_false] at he
 rcases he with rfl | rfl | rfl | rfl <;> exact ⟨_,rfl⟩,rfl⟩
theorem LetAt.yes {H:Hp}{lt:Addr}{n s w:Nat}{a z:Int} (h:LetAt H lt n s w a z):isLet n (some [.int (s:Int),.int a,.int (w:Int),.int z])=true:=by
 obtain ⟨_,h1,h2,h3,h4,h5,h6⟩:=h
 simp only [isLet,inB,yd,decide_eq_true_eq]
 omega
def spEarliest:Sp:=λvs H Q _=>∃ b lt,∃ s w:Nat,∃ a z rooms tr tm ps,vs=[.ref b,.ref lt]/\BookAt H b rooms tr tm ps/\rooms.length<=1000/\Good rooms.length (ps.map (·.2))/\LetAt H lt rooms.length s w a z /\
 (upto (fwd (ps.map (·.2)) (lone s a) w) z=false->∀ H',Same H H'->Q .non H') /\
 (∀ e l ns H',fwd (ps.map (·.2)) (lone s a) w=some e->e<=z->H l=none->Same H H'->H' l=some (.lst (List.map V.int ns))->ns.length<=1000->walkM (ps.map (·.2)) s a (-1) ns=some (w,e)->Q (.ref l) H')
theorem we {ms:List M4}{v:Nat}{t A n:Int}{ns:List Int}{r:Nat×Int} (h:walkM ms v t A (n::ns)=some r):∃ m,ms[n.toNat]?=some m/\A < n/\0<=n/\(v=m.lo.toNat\/v=m.hi.toNat)/\t < m.t/\walkM ms (if v=m.lo.toNat then m.hi.toNat else m.lo.toNat) m.t n ns=some r:=by
 unfold walkM at h
 cases e:ms[n.toNat]? with
 | none=>rw [e] at h;cases h
 | some m=>
  rw [e] at h
  dsimp only at h
  split at h
  ·rename_i c;exact ⟨m,rfl,c.1,c.2.1,c.2.2.1,c.2.2.2,h⟩
  ·cases h
theorem Purse.same {H H':Hp}{p:Addr} (h:Purse H p) (e:Same H H'):Purse H' p:=by
 obtain ⟨x,y,z,q⟩:=h
 exact ⟨x,y,z,e _ _ q⟩
end Sm
namespace Sm
open PySem L2 SmSort
def closedB (ws:List W3) (f:Fn):Bool:=ws.all λx=>!(below (f x.g) x.t) || upto (f x.o) x.t
def spOtherAt:Sp:=λvs H Q _=>∃ b,∃ k:Nat,∃ v:Int,∃ rooms tr tm ps,∃ m:M4,vs=[.ref b,.int k,.int v]/\BookAt H b rooms tr tm ps/\(ps.map (·.2))[k]?=some m/\Q (.int (if v=m.lo then m.hi else m.lo)) H
def spIsMeetNo:Sp:=λvs H Q _=>∃ b x t rooms tr tm ps,vs=[.ref b,x]/\BookAt H b rooms tr tm ps/\tyS H x=some t/\Q (.bl (inB 0 ((ps.length:Int) - 1) x)) H
def spIsChain:Sp:=λvs H Q _=>∃ b lt lc,∃ s w:Nat,∃ a z e rooms tr tm ps,∃ ns:List Int,vs=[.ref b,.ref lt,.ref lc]/\BookAt H b rooms tr tm ps/\Good rooms.length (ps.map (·.2))/\LetAt H lt rooms.length s w a z/\H lc=some (.lst (List.map V.int ns))/\walkM (ps.map (·.2)) s a (-1) ns=some (w,e)/\e<=z/\∀ H',Same H H'->Q (.bl true) H'
theorem early_closed {n s:Nat}{x:Int}{ms:List M4} (g:Good n ms):closedB (ways2 ms) (fwd ms (lone s x))=true:=by
 refine yp.mpr λa ha=>?_
 cases h:below (fwd ms (lone s x) a.g) a.t with
 | false=>rfl
 | true=>
  obtain ⟨y,hy,lt⟩:=below_iff.mp h
  obtain ⟨e,he,le⟩:=(early_fwd (s:=s) (x:=x) g).clos a ha y hy lt
  rw [upto_iff.mpr ⟨e,he,le⟩];rfl
end Sm
namespace L2
open PySem PySem.Spec PyProof.Rows
section
variable {X:Cx}
end
end L2
namespace Sm
open PySem L2 SmSort
theorem walk_last {ms:List M4}:∀ {ns:List Int}{v:Nat}{t A:Int}{w:Nat}{e:Int},walkM ms v t A ns=some (w,e)->(ns=[]/\t=e)\/∃ n m,∃ k:Nat,ns.getLast?=some n/\n=(k:Int)/\ms[k]?=some m/\m.t=e
 | [],v,t,A,w,e,h=>by
  unfold walkM at h
  obtain ⟨_,h2⟩:=Prod.mk.inj (Option.some.inj h)
  exact .inl ⟨rfl,h2⟩
 | n::ns,v,t,A,w,e,h=>by
  obtain ⟨m,hm,_,n0,_,_,wk⟩:=we h
  obtain ⟨k,rfl⟩:=zk n0
  rw [zh] at hm
  rcases walk_last wk with ⟨rfl,rfl⟩ | ⟨n',m',k',h1,h2,h3,h4⟩
  ·exact .inr ⟨_,m,k,rfl,rfl,hm,rfl⟩
  ·refine .inr ⟨n',m',k',?_,h2,h3,h4⟩
   cases ns with
   | nil=>cases h1
   | cons a b=>rw [List.getLast?_cons_cons];exact h1
theorem atI_last {α:Type}{xs:List α}{v:α} (h:xs.getLast?=some v):atI xs (-1)=some v:=by
 cases xs with
 | nil=>cases h
 | cons a b=>
  rw [List.getLast?_eq_getElem?] at h
  unfold atI
  have e:ixN (a::b).length (-1)=some ((a::b).length - 1):=by
   unfold ixN
   simp only [zW]
   rw [if_neg (by omega)]
   simp
   omega
  rw [e]
  exact h
def spArrival:Sp:=λvs H Q _=>∃ b lt lc,∃ s w:Nat,∃ a z e rooms tr tm ps,∃ ns:List Int,vs=[.ref b,.ref lt,.ref lc]/\BookAt H b rooms tr tm ps/\Good rooms.length (ps.map (·.2))/\H lt=some (.tup [.int (s:Int),.int a,.int (w:Int),.int z])/\H lc=some (.lst (List.map V.int ns))/\walkM (ps.map (·.2)) s a (-1) ns=some (w,e)/\Q (.int e) H
end Sm
namespace Sm
open PySem L2 SmSort
end Sm
namespace L2
open PySem
theorem iteN {c:Bool}{A:Prop}{D:Ends}{σ:St}{H:Hp} (Pre:St->Hp->Prop) (k:∀ σ H,Pre σ H->D.nx σ H) (h1:c=true->(∀ σ H,Pre σ H->D.nx σ H)->A) (h2:c=false->Pre σ H):if c=true then A else tNext D σ H:=by
 cases c with
 | true=>exact h1 rfl k
 | false=>exact k _ _ (h2 rfl)
end L2
namespace Sm
open PySem L2 SmSort
def oth (v:Nat) (m:M4):Nat:=if v=m.lo.toNat then m.hi.toNat else m.lo.toNat
theorem walkM_low {w:Nat}{ms:List M4}{f:Fn} (g:Good w ms) (cl:closedB (ways2 ms) f=true):∀ (ns:List Int) (v:Nat) (t A:Int),upto (f v) t=true->∀ v' t',walkM ms v t A ns=some (v',t')->upto (f v') t'=true
 | [],v,t,A,h,v',t',e=>by
  have:=Option.some.inj e
  obtain ⟨rfl,rfl⟩:=Prod.mk.inj this
  exact h
 | n::ns,v,t,A,h,v',t',e=>by
  obtain ⟨m,hm,h1,h2,h3,h4,wk⟩:=we e
  refine walkM_low g cl ns _ m.t n ?_ v' t' wk
  obtain ⟨y,hy,ly⟩:=upto_iff.mp h
  have bl:below (f v) m.t=true:=below_iff.mpr ⟨y,hy,by omega⟩
  have mem:∀ x∈two m,(!(below (f x.g) x.t) || upto (f x.o) x.t)=true:=λx hx=>yp.mp cl x (by
   unfold ways2
   exact xI.mpr ⟨m,zC hm,hx⟩)
  obtain ⟨a1,a2,_⟩:=g.each m (zC hm)
  rcases h3 with hv | hv
  ·rw [if_pos hv]
   have:=mem ⟨m.lo.toNat,m.hi.toNat,m.t⟩ (by unfold two;simp)
   dsimp only at this
   rw [<-hv,bl] at this;simpa using this
  ·rw [if_neg (by omega)]
   have:=mem ⟨m.hi.toNat,m.lo.toNat,m.t⟩ (by unfold two;simp)
   dsimp only at this
   rw [<-hv,bl] at this;simpa using this
end Sm
namespace Sm
open PySem L2 SmSort
def jstep (row F:Fn) (x:W3):Fn:=if below (row x.g) x.t=true/\upto (F x.o) x.t=false then put F x.o (some x.t) else F
def jac (ws:List W3) (row:Fn):Fn:=ws.foldl (jstep row) row
def jrow (ws:List W3) (row:Fn):Nat->Fn
 | 0=>row
 | k + 1=>jac ws (jrow ws row k)
def rk (ws:List W3):Option Int->Nat
 | none=>ws.length + 1
 | some y=>ws.countP λx=>decide (x.t < y)
end Sm
namespace L2
open PySem PySem.Spec PyProof.Rows
open AutoSeq1 (wpAny_loadPart')
theorem range_zero {β:Type} (init:β) (f:Nat->β->Sem (ForInStep β)):forIn [:0] init f=(pure init:Sem β):=by
 rw [Std.Legacy.Range.forIn_eq_forIn_range']
 rfl
section
variable {X:Cx}
end
end L2
namespace Sm
open PySem L2 SmSort
end Sm
namespace Sm
open PySem L2 SmSort
end Sm
namespace L2
open PySem
end L2
namespace Sm
open PySem L2
end Sm
namespace Sm
open PySem L2 SmSort
theorem walk_snoc {n:Nat}{ms:List M4} (g:Good n ms) {m:M4}{k:Nat} (hm:ms[k]?=some m):∀ {ns:List Int}{v v':Nat}{t t' A:Int},walkM ms v t A ns=some (v',t')->(A=-1\/∃ i:Nat,∃ mi,A=i/\ms[i]?=some mi/\mi.t<=t)->(v'=m.lo.toNat\/v'=m.hi.toNat)->t' < m.t->walkM ms v t A (ns++[(k:Int)])=some (oth v' m,m.t)
 | [],v,v',t,t',A,h,hA,hv,ht=>by
  have:=Option.some.inj h
  obtain ⟨rfl,rfl⟩:=Prod.mk.inj this
  have an:A < k:=by
   rcases hA with rfl | ⟨k',m',rfl,hm',lt'⟩
   ·omega
   ·have:=idx_lt g.ord.2 hm' hm (by omega)
    omega
  show walkM ms v t A [(k:Int)]=_
  unfold walkM
  rw [zh,hm]
  dsimp only
  rw [if_pos ⟨an,by omega,hv,ht⟩]
  rfl
 | n0::ns,v,v',t,t',A,h,hA,hv,ht=>by
  obtain ⟨m0,hm0,h1,h2,h3,h4,wk⟩:=we h
  obtain ⟨j,rfl⟩:=zk h2
  rw [zh] at hm0
  show walkM ms v t A ((j:Int)::(ns++[(k:Int)]))=_
  unfold walkM
  rw [zh,hm0]
  dsimp only
  rw [if_pos ⟨h1,h2,h3,h4⟩]
  exact walk_snoc g hm wk (.inr ⟨j,m0,rfl,hm0,zq _⟩) hv ht
end Sm
namespace L2
open PySem PySem.Spec PyProof.Rows
section
variable {X:Cx}
end
end L2
namespace Sm
open PySem L2
theorem walk_len {ms:List M4}:∀ {ns:List Int}{v:Nat}{t A:Int}{q:Nat×Int},walkM ms v t A ns=some q->A<=(ms.length:Int) - 1->(ns.length:Int)<=(ms.length:Int) - 1 - A
 | [],v,t,A,q,h,hA=>by show (0:Int)<=_;omega
 | n::ns,v,t,A,q,h,hA=>by
  obtain ⟨m,hm,h1,h2,h3,h4,wk⟩:=we h
  have hn:n.toNat < ms.length:=(zB.mp hm).1
  have:=walk_len wk (by omega)
  rw [zW]
  omega
end Sm
namespace Sm
open PySem L2 SmSort
structure Rows (H0 H:Hp) (ms:List M4) (n k:Nat) (x:Int) (as:List Addr):Prop where
 pos:as≠[]
 few:as.length<=200000
 at':∀ (i:Nat) (a:Addr),as[i]?=some a->H0 a=none/\H a=some (.lst ((rep n (jrow (ways2 ms) (lone k x) i)).map oV))
 ne:∀ i,i + 1 < as.length->rep n (jrow (ways2 ms) (lone k x) (i + 1))≠rep n (jrow (ways2 ms) (lone k x) i)
 last:rep n (jrow (ways2 ms) (lone k x) as.length)=rep n (jrow (ways2 ms) (lone k x) (as.length - 1))
end Sm
namespace L2
open PySem PySem.Spec PyProof.Rows
section
variable {K:PySem.W.Frag}{a:Addr}{xs:List V}{n:Nat}{caps:List Nat}{g:TG}{tc:TT}{te:TE}{σ:St}{H:Hp}{Qf:Addr->Hp->List V->Prop}
theorem comp_ofB {J:It} (Pv:Nat->St->List V->Hp->Prop) (len:Nat) (h0:Pv 0 (tau0 n caps σ) [] H) (hn:len<=200000) (hl:∀ i τ acc H,Pv i τ acc H->acc.length<=i)
  (hgo:∀ i τ acc H,i < len->Pv i τ acc H->J.go i H) (hstop:∀ τ acc H,Pv len τ acc H->J.stop len H)
  (hs:∀ i τ acc H (C:St->List V->Hp->Prop),i < len->Pv i τ acc H->(∀ τ acc H,Pv (i + 1) τ acc H->C τ acc H)->∀ x H',J.yld i H x H'->g x τ H' fun τ2 H2=>tc τ2 H2 λb H3=>if b=true then te τ2 H3 λy H4=>C τ2 (acc++[y]) H4 else C τ2 acc H3)
  (hd:∀ τ acc H,Pv len τ acc H->∀ p,H p=none->Qf p H acc) :
  ∃ W:Nat->Nat->St->List V->Hp->Prop,(∃ m,W 0 m (tau0 n caps σ) [] H)/\∀ i m τ acc H,W i m τ acc H ->
   (J.stop i H/\acc.length<=sizeLine/\∀ p,H p=none->Qf p H acc) \/
   (J.go i H/\acc.length < sizeLine/\∀ x H',J.yld i H x H'->g x τ H' fun τ2 H2=>tc τ2 H2 λb H3=>if b=true then te τ2 H3 λy H4=>∃ m',m' < m/\W (i + 1) m' τ2 (acc++[y]) H4 else ∃ m',m' < m/\W (i + 1) m' τ2 acc H3):=by
 have line:200001<=sizeLine:=by rw [sizeLine_eq];decide
 refine ⟨λi m τ acc H=>m=len - i/\i<=len/\Pv i τ acc H,⟨len,by simp,zc _,h0⟩,?_⟩
 rintro i m τ acc H ⟨rfl,hi,p⟩
 have q:=hl i τ acc H p
 by_cases hlt:i < len
 ·exact .inr ⟨hgo i τ acc H hlt p,by omega,λx H' y=>hs i τ acc H (fun τ acc H=>∃ m',m' < len - i/\m'=len - (i + 1)/\i + 1<=len/\Pv (i + 1) τ acc H) hlt p (fun τ acc H p'=>⟨len - (i + 1),by omega,rfl,hlt,p'⟩) x H' y⟩
 ·have e:i=len:=by omega
  subst e
  exact .inl ⟨hstop τ acc H p,by omega,hd τ acc H p⟩
theorem comp_listB (Pv:Nat->St->List V->Hp->Prop) (h0:Pv 0 (tau0 n caps σ) [] H) (hn:xs.length<=200000) (hl:∀ i τ acc H,Pv i τ acc H->acc.length<=i/\SqL K H a xs)
  (hs:∀ i x τ acc H (C:St->List V->Hp->Prop),xs[i]?=some x->Pv i τ acc H->(∀ τ acc H,Pv (i + 1) τ acc H->C τ acc H)->g x τ H fun τ2 H2=>tc τ2 H2 λb H3=>if b=true then te τ2 H3 λy H4=>C τ2 (acc++[y]) H4 else C τ2 acc H3)
  (hd:∀ τ acc H,Pv xs.length τ acc H->∀ p,H p=none->Qf p H acc) :
  ∃ W:Nat->Nat->St->List V->Hp->Prop,(∃ m,W 0 m (tau0 n caps σ) [] H)/\∀ i m τ acc H,W i m τ acc H ->
   ((Itl K a).stop i H/\acc.length<=sizeLine/\∀ p,H p=none->Qf p H acc) \/
   ((Itl K a).go i H/\acc.length < sizeLine/\∀ x H',(Itl K a).yld i H x H'->g x τ H' fun τ2 H2=>tc τ2 H2 λb H3=>if b=true then te τ2 H3 λy H4=>∃ m',m' < m/\W (i + 1) m' τ2 (acc++[y]) H4 else ∃ m',m' < m/\W (i + 1) m' τ2 acc H3):=
 comp_ofB (J:=Itl K a) Pv xs.length h0 hn (λi τ acc H p=>(hl i τ acc H p).1) (λi τ acc H hi p=>⟨xs,xs[i],(hl i τ acc H p).2,by simp [hi]⟩) (fun τ acc H p=>⟨xs,(hl _ τ acc H p).2,zD _⟩)
  (λi τ acc H C hi p c x H' y=>by obtain ⟨e,y⟩:=y;subst e;exact hs i x τ acc _ C (y xs (hl i τ acc _ p).2) p c) hd
end
end L2
namespace Sm
open PySem L2 SmSort
end Sm
namespace Sm
open PySem L2 SmSort
end Sm
namespace Sm
open PySem L2
end Sm
namespace Sm
open PySem L2 SmSort
def again (ms:List M4) (day first:Int):Nat->List M4
 | 0=>[]
 | r + 1=>again ms day first r++ms.map (M4.late ((first + r) * day))
theorem fwd_append (a b:List M4) (st:Fn):fwd (a++b) st=fwd b (fwd a st):=by
 unfold fwd ways2
 rw [List.flatMap_append,List.foldl_append]
end Sm
namespace L2
open PySem PySem.Spec PyProof.Rows
section
variable {X:Cx}{pins:List (Addr×Obj)}{σ:St}{H:Hp}{s:Shared}
theorem wn {xs:List V}{us:List Value} (r:Vals xs us) {j:Nat} (h:j < us.toArray.size):∃ x,xs[j]?=some x/\RelV x us.toArray[j]:=by
 have hl:=r.length
 simp only [zM] at h
 have a1:j < xs.length:=by omega
 obtain ⟨u,eu,ru⟩:=r.get (i:=j) (x:=xs[j]) (by simp [a1])
 have e1:us.toArray[j]=u:=by rw [List.getElem_toArray];exact Option.some.inj ((zL h).symm.trans eu)
 exact ⟨xs[j],by simp [a1],by rw [e1];exact ru⟩
end
end L2
namespace L2
open PySem PySem.Spec PyProof.Rows
def Eqv (K:PySem.W.Frag) (H:Hp):Nat->V->V->Bool->Prop
 | 0,x,y,b=>(x=y/\(∃ a,x=.ref a)/\b=true)\/(flatV x=true/\flatV y=true/\b=eqV x y)
 | n + 1,x,y,b=>(x=y/\(∃ a,x=.ref a)/\b=true)\/(flatV x=true/\flatV y=true/\b=eqV x y)\/∃ (a c:Addr) (xs ys:List V) (e:Nat->Bool),x=.ref a/\y=.ref c/\((SqL K H a xs/\SqL K H c ys)\/(SqT K H a xs/\SqT K H c ys))/\(a=c->b=true)/\b=(decide (xs.length=ys.length) && (List.range xs.length).all e)/\∀ (i:Nat) (x y:V),xs[i]?=some x->ys[i]?=some y->Eqv K H n x y (e i)
section
variable {X:Cx}{pins:List (Addr×Obj)}{σ:St}{H:Hp}{s:Shared}
theorem eqv_eq (I:Inv X pins σ H s):∀ (n:Nat) {A:Around}{x y:V}{b:Bool}{u v:Value},A.units + n < cLine->Eqv X.K H n x y b->RelV x u->RelV y v->SeqAt.EqAt A s u v b
 | n,A,x,y,b,u,v,hu,h,ru,rv=>by
  have base1:x=y/\(∃ a,x=.ref a)/\b=true->SeqAt.EqAt A s u v b:=by
   rintro ⟨rfl,⟨a,rfl⟩,rfl⟩
   cases ru;cases rv
   exact SeqAt.EqAt.same _
  have base2:flatV x=true/\flatV y=true/\b=eqV x y->SeqAt.EqAt A s u v b:=by
   rintro ⟨h1,h2,rfl⟩
   exact eqAt_V (A:=A) (s:=s) ru rv h1 h2
  cases n with
  | zero=>exact h.elim base1 base2
  | succ n=>
   rcases h with h | h | ⟨a,c,xs,ys,e,rfl,rfl,h,hs,hb,hi⟩
   ·exact base1 h
   ·exact base2 h
   ·cases ru;cases rv
    by_cases ne:a=c
    ·rw [hs ne,ne];exact SeqAt.EqAt.same _
    refine SeqAt.EqAt.of_refs ne ?_
    rcases h with ⟨h1,h2⟩ | ⟨h1,h2⟩
    ·obtain ⟨its,r1,p1,_⟩:=I.list h1
     obtain ⟨its2,r2,p2,_⟩:=I.list h2
     have l1:=r1.length
     have l2:=r2.length
     by_cases hl:xs.length=ys.length
     ·have:=SeqAt.RcAt.lists (A:=A) (e:=e) p1.isList p2.isList (by simp;omega) (by omega) λj h1 h2=>by
       obtain ⟨x,ex,rx⟩:=wn r1 h1
       obtain ⟨y,ey,ry⟩:=wn r2 h2
       exact eqv_eq I n (by show A.units + 1 + n < cLine;omega) (hi j x y ex ey) rx ry
      rw [hb,decide_eq_true hl,xK,l1]
      simpa using this
     ·rw [hb,decide_eq_false hl,yX]
      exact SeqAt.RcAt.lists_lengths (A:=A) p1.isList p2.isList (by simp;omega) (by omega)
    ·obtain ⟨its,r1,p1,_⟩:=I.tuple h1
     obtain ⟨its2,r2,p2,_⟩:=I.tuple h2
     have l1:=r1.length
     have l2:=r2.length
     have:=SeqAt.RcAt.tuples (A:=A) (e:=e) p1 p2 (by omega) λj h1 h2=>by
      obtain ⟨x,ex,rx⟩:=wn r1 h1
      obtain ⟨y,ey,ry⟩:=wn r2 h2
      exact eqv_eq I n (by show A.units + 1 + n < cLine;omega) (hi j x y ex ey) rx ry
     by_cases hl:xs.length=ys.length
     ·rw [hb,decide_eq_true hl,xK,l1]
      have e1:its2.length=its.length:=by omega
      simpa [e1] using this
     ·rw [hb,decide_eq_false hl,yX]
      have e1:¬ its.length=its2.length:=by omega
      have e2:(its.toArray.size == its2.toArray.size)=false:=by simp [e1]
      rw [e2,xD] at this
      exact this
def rEqv (K:PySem.W.Frag) (neg:Bool):R2:=λx y H Q=>∃ (n:Nat) (a c:Addr) (xs ys:List V) (e:Nat->Bool) (b:Bool),n<=20/\x=.ref a/\y=.ref c/\((SqL K H a xs/\SqL K H c ys)\/(SqT K H a xs/\SqT K H c ys))/\b=(decide (xs.length=ys.length) && (List.range xs.length).all e)/\(∀ (i:Nat) (x y:V),xs[i]?=some x->ys[i]?=some y->Eqv K H n x y (e i))/\Q (.bl (if neg then !b else b)) H
theorem op_eqE (hu:X.A.units + 64 < cLine):OpR X (compareOp .Eq) (rEqv X.K false):=by
 intro pins s σ H x y v u Q I rx ry h
 obtain ⟨n,a,c,xs,ys,e,b,hn,rfl,rfl,h,hb,hi,q⟩:=h
 cases rx;cases ry
 rw [if_neg (by decide),hb] at q
 rcases h with ⟨h1,h2⟩ | ⟨h1,h2⟩
 ·obtain ⟨its,r1,p1,_⟩:=I.list h1
  obtain ⟨its2,r2,p2,_⟩:=I.list h2
  have l1:=r1.length
  have l2:=r2.length
  by_cases hl:xs.length=ys.length
  ·rw [decide_eq_true hl,xK,l1] at q
   exact SeqAt.RcAt.lists (e:=e) p1.isList p2.isList (by simp;omega) (by omega) (λj h1 h2=>by
    obtain ⟨x,ex,rx⟩:=wn r1 h1
    obtain ⟨y,ey,ry⟩:=wn r2 h2
    exact eqv_eq I n (by show X.A.units + 1 + n < cLine;omega) (hi j x y ex ey) rx ry) _ _ _ _ ⟨.bl _,H,I,rfl,by simpa using q⟩
  ·rw [decide_eq_false hl,yX] at q
   exact SeqAt.RcAt.lists_lengths p1.isList p2.isList (by simp;omega) (by omega) _ _ _ _ ⟨.bl _,H,I,rfl,q⟩
 ·obtain ⟨its,r1,p1,_⟩:=I.tuple h1
  obtain ⟨its2,r2,p2,_⟩:=I.tuple h2
  have l1:=r1.length
  have l2:=r2.length
  have key:((List.range (min its.toArray.size its2.toArray.size)).all e && its.toArray.size == its2.toArray.size)=(decide (xs.length=ys.length) && (List.range xs.length).all e):=by
   by_cases hl:xs.length=ys.length
   ·have e1:its2.length=its.length:=by omega
    rw [decide_eq_true hl,xK,l1];simp [e1]
   ·have e1:¬ its.length=its2.length:=by omega
    rw [decide_eq_false hl,yX];simp [e1]
  rw [<-key] at q
  exact SeqAt.RcAt.tuples (e:=e) p1 p2 (by omega) (λj h1 h2=>by
   obtain ⟨x,ex,rx⟩:=wn r1 h1
   obtain ⟨y,ey,ry⟩:=wn r2 h2
   exact eqv_eq I n (by show X.A.units + 1 + n < cLine;omega) (hi j x y ex ey) rx ry) _ _ _ _ ⟨.bl _,H,I,rfl,q⟩
theorem op_neE (hu:X.A.units + 64 < cLine):OpR X (compareOp .NotEq) (rEqv X.K true):=by
 intro pins s σ H x y v u Q I rx ry h
 obtain ⟨n,a,c,xs,ys,e,b,hn,rfl,rfl,h,hb,hi,q⟩:=h
 cases rx;cases ry
 rw [if_pos rfl,hb] at q
 rcases h with ⟨h1,h2⟩ | ⟨h1,h2⟩
 ·obtain ⟨its,r1,p1,_⟩:=I.list h1
  obtain ⟨its2,r2,p2,_⟩:=I.list h2
  have l1:=r1.length
  have l2:=r2.length
  by_cases hl:xs.length=ys.length
  ·rw [decide_eq_true hl,xK,l1] at q
   exact SeqAt.RcNeAt.lists (e:=e) p1.isList p2.isList (by simp;omega) (by omega) (λj h1 h2=>by
    obtain ⟨x,ex,rx⟩:=wn r1 h1
    obtain ⟨y,ey,ry⟩:=wn r2 h2
    exact eqv_eq I n (by show X.A.units + 1 + n < cLine;omega) (hi j x y ex ey) rx ry) _ _ _ _ ⟨.bl _,H,I,rfl,by simpa using q⟩
  ·rw [decide_eq_false hl,yX] at q
   exact SeqAt.RcNeAt.lists_lengths p1.isList p2.isList (by simp;omega) (by omega) _ _ _ _ ⟨.bl _,H,I,rfl,q⟩
 ·obtain ⟨its,r1,p1,_⟩:=I.tuple h1
  obtain ⟨its2,r2,p2,_⟩:=I.tuple h2
  have l1:=r1.length
  have l2:=r2.length
  have key:((List.range (min its.toArray.size its2.toArray.size)).all e && its.toArray.size == its2.toArray.size)=(decide (xs.length=ys.length) && (List.range xs.length).all e):=by
   by_cases hl:xs.length=ys.length
   ·have e1:its2.length=its.length:=by omega
    rw [decide_eq_true hl,xK,l1];simp [e1]
   ·have e1:¬ its.length=its2.length:=by omega
    rw [decide_eq_false hl,yX];simp [e1]
  rw [<-key] at q
  exact SeqAt.RcNeAt.tuples (e:=e) p1 p2 (by omega) (λj h1 h2=>by
   obtain ⟨x,ex,rx⟩:=wn r1 h1
   obtain ⟨y,ey,ry⟩:=wn r2 h2
   exact eqv_eq I n (by show X.A.units + 1 + n < cLine;omega) (hi j x y ex ey) rx ry) _ _ _ _ ⟨.bl _,H,I,rfl,q⟩
end
theorem eqV_int (x y:Int):eqV (.int x) (.int y)=decide (x=y):=rfl
end L2
namespace L2
open PySem PySem.Spec PyProof.Rows
section
variable {X:Cx}
theorem int_items:∀ {ns:List Int}{its:List Value},Vals (ns.map V.int) its->∃ xs:List (Int×Tok),its=xs.map (λp=>Value.int p.1 p.2)/\xs.map (·.1)=ns
 | [],_,r=>by cases r;exact ⟨[],rfl,rfl⟩
 | n::ns,_,r=>by
  cases r with
  | cons r1 rr=>
   obtain ⟨t,rfl⟩:=r1
   obtain ⟨xs,rfl,e⟩:=int_items rr
   exact ⟨(n,t)::xs,rfl,by rw [zm,e]⟩
end
end L2
namespace Sm
open PySem L2 SmSort
end Sm
namespace Sm
open PySem L2 SmSort
theorem ahead {n:Nat}{ms:List M4}{m:M4} (g:Good n (ms++[m])) {v:Nat}{x y:Int}{i:Nat} (hi:i≠v) (h:fwd ms (lone v x) i=some y):y<=m.t/\((i=m.lo.toNat\/i=m.hi.toNat)->y < m.t):=by
 obtain ⟨a,ha,ao,at',_⟩:=run_from (ws:=ways2 ms) h (by simp [lone,hi])
 unfold ways2 at ha
 obtain ⟨c,hc,hx⟩:=xI.mp ha
 have od:=(List.pairwise_append.mp g.order).2.2 c hc m (by simp)
 obtain ⟨c1,c2,c3,_⟩:=g.each c (by simp [hc])
 obtain ⟨m1,m2,m3,_⟩:=g.each m (by simp)
 unfold two at hx
 simp only [zH,yf,or_false] at hx
 have ct:c.t=y:=by rcases hx with rfl | rfl <;> exact at'
 have ci:i=c.lo.toNat\/i=c.hi.toNat:=by
  rcases hx with rfl | rfl
  ·exact .inr ao.symm
  ·exact .inl ao.symm
 refine ⟨by rcases od with h | h <;> omega,λhm=>?_⟩
 rcases od with h | ⟨h1,h2,h3,h4,h5,h6⟩
 ·omega
 ·exfalso
  rcases ci with e | e <;> rcases hm with e' | e' <;> omega
end Sm
namespace L2
open PySem PySem.Spec PyProof.Rows
section
variable {X:Cx}{pins:List (Addr×Obj)}{σ:St}{H:Hp}{s:Shared}
theorem ps_setComp {ix:Nat}{xn:Str}{pos' spos:Pos}{own:List Str}{caps:List Nat}{elt tg iter:Expr}{ifs:List Expr}{scope:Scope}{pos:Pos}{wi:TI}{g:TG}{tc:TT}{te:TE} (hN:X.N.Nodup) (hix:X.N[ix]?=some xn) (hxl:Loc X.env.scope xn) (hc:X.calm=true) (S:CompScope own caps X.N X.env.scope scope) (hi:PI X tg iter wi)
  (hg:∀ s H fp C,PG (cxComp X own caps scope s H fp C) tg g) (ht:∀ s H fp C,PTs (cxComp X own caps scope s H fp C) ifs tc) (he:∀ s H fp C,PE (cxComp X own caps scope s H fp C) elt te)
  (hs:∀ x,foldedSetIterable iter X.env x=pure x:=by intro _;rfl) (hsw:swapsWith (.ListComp elt [⟨tg,iter,ifs,0⟩] scope pos) (some (.Name xn pos')) spos.line X.env=pure true:=by rfl)
  (hf:X.fn xn=true\/X.env.scope.names.lookup xn=some .local:=by first | exact .inl rfl | exact .inr rfl | assumption) :
  PS X (.Assign [.Name xn pos'] (.ListComp elt [⟨tg,iter,ifs,0⟩] scope pos) spos) (tAsg (tComp own.length caps wi g tc te) (gName ix)):=by
 intro pins s σ H D0 I h
 rw [exec_Assign_Name_used _ _ _ _ hsw,arm_evalThenUse_ListComp]
 suffices main:wpAny (model X.prog X.w) X.A (comprehension (.ListComp elt [⟨tg,iter,ifs,0⟩] scope pos) scope X.env (firstIterPos [⟨tg,iter,ifs,0⟩] pos) (newList []) false (eval iter X.env) (some (assign (.Name xn pos') X.env))) (λ_ s1=>SP X pins D0 .next s1) X.xe s from
  wpAny_bind (wpAny_standAt (wpAny_bind (wpAny_bind (wpAny_mono main (λ_ s1 h=>wpAny_pure (wpAny_pure h)) λ_ _ e=>e))))
 refine wpAny_comprehension_free (use:=some _) (cl:=clOf scope.names X.env []) rfl hs (closureFor_eq λy hy e=>I.ok.has y.1 (S.fr y hy e)) S.kind S.loc
  (wpAny_mono (hi pins s σ H _ I h) (λv s1 h1=>thn h1 λitv s2 h2=>?_) λ_ _ e=>e)
 obtain ⟨it,fp,tn,J,H2,e,I2,T,st2,f2,W,⟨m0,w0⟩,turn⟩:=h2
 subst e
 refine wpAny_newObj_type (wpAny_newFunctionEnv S.nocell (by intro y hy;simp at hy) (λh₁ hns₁ hsb₁=>?_) S.kind)
 dsimp only at hns₁ hsb₁ ⊢
 generalize hH2:s2.heap.push { cls:=.type "list", dict:=none,data:=.seq ([]:List Value).toArray }=G at hns₁ hsb₁ ⊢
 have hG:G.objs.size=s2.heap.objs.size + 1:=by rw [<-hH2,Heap.size_push]
 have hDC:s2.heap.objs.size≠G.objs.size:=by rw [hG];exact zU (xH _)
 have hCle:s2.heap.objs.size<=G.objs.size:=by rw [hG];exact yu _
 have below:∀ b,b < s2.heap.objs.size->b≠G.objs.size:=λb hb=>by rw [hG];exact zU (yY hb)
 have old:∀ b o,s2.heap.get? b=some o->h₁.get? b=some o:=λb o e=>hsb₁.extBut b o (below b (Heap.lt_size e)) (Heap.get?_push_of_some _ (hH2 ▸ Heap.get?_push_of_some _ e))
 have hacc:h₁.get? s2.heap.objs.size=some { cls:=.type "list", dict:=none,data:=.seq ([]:List Value).toArray }:=hsb₁.extBut _ _ hDC (Heap.get?_push_of_some _ (hH2 ▸ Heap.get?_push_size _ rfl))
 have fl:∀ b∈fp,b < s2.heap.objs.size:=λb hb=>let ⟨o,e,_⟩:=T.obj _ _ st2 b hb;Heap.lt_size e
 have hns₁':h₁.Ns G.objs.size λ_=>none:=hns₁
 have I4:=inv_comp (tk:=s2.toks + ([]:List (Str×Value)).length) I2 S f2 fl (zD _) hCle hDC old hns₁' hacc (λv z=>nomatch z)
 have st4:tn 0 h₁:=T.keep _ _ _ st2 λb _ o e=>old b o e
 generalize hs4:({ s2 with heap:=h₁,toks:=s2.toks + ([]:List (Str×Value)).length }:Shared)=s4 at I4 ⊢
 have e4:s4.heap=h₁:=by rw [<-hs4]
 rw [<-e4] at st4
 -- the loop
 have loop:codeAny (model X.prog X.w) X.A (.compLoop (.ListComp elt [⟨tg,iter,ifs,0⟩] scope pos) 0 (.ref it) (.ref s2.heap.objs.size) (compEnvC scope (clOf scope.names X.env []) G.objs.size X.env))
   (compPost (model X.prog X.w) X.A X.xe (some (assign (.Name xn pos') X.env)) (λ_ s1=>SP X pins D0 .next s1) (.ref s2.heap.objs.size) G.objs.size) s4:=by
  let Y:=cxComp X own caps scope s2 H2 fp G.objs.size
  have stat:∀ {H':Hp}{its:List Value}{n:Nat},(∀ b∈fp,H' b=none)->∀ b∈fp,FpOk Y [(s2.heap.objs.size,({ cls:=.type "list", data:=.seq its.toArray n }:Obj))] H' b:=λ{H' its n} hn b hb=>by
   refine ⟨hn b hb,below b (fl b hb),λz=>?_,.inl hb,λx c e=>(f2 b hb).2.2.2.2.1 x c (wM e),λp hp=>?_⟩
   ·rcases zH.mp (I2.stkSub b z) with e | e
    ·exact (f2 b hb).2.1 e
    ·exact (f2 b hb).2.2.1 e
   ·have e:p=(s2.heap.objs.size,({ cls:=.type "list", data:=.seq its.toArray n }:Obj)):=by simpa using (show p∈[]++[_] from hp)
    subst e
    exact yN (fl b hb)
  refine loop_comp (λn s'=>∃ i τ acc its k H',Inv Y [(s2.heap.objs.size,({ cls:=.type "list", data:=.seq its.toArray k }:Obj))] τ H' s'/\tn i s'.heap/\(∀ b∈fp,H' b=none)/\Vals acc its/\W i n τ acc H') ?_ m0
   ⟨0,_,[],[],0,H2,I4,st4,λb hb=>(f2 b hb).1,.nil,w0⟩
  rintro n s5 ⟨i,τ,acc,its,k,H5,I5,st5,fr5,rv5,w5⟩
  rcases turn i n τ acc H5 w5 with ⟨stop,hz,q⟩ | ⟨go,hz,step⟩
  ·refine thn (T.done Y rfl rfl rfl hc i _ s5 τ H5 (λ_ _=>False) I5 (stat fr5) st5 stop) λr s6 ⟨hr,I6⟩=>?_
   subst hr
   obtain ⟨eD,nD,_,_,_⟩:=I6.pin _ (zP _ (zF.mpr rfl))
   obtain ⟨m6,hm6,_⟩:=I6.loc
   have hC6:H5 G.objs.size=none:=I6.free
   have hok6:HOk X.prog X.w H5 s6.heap:=I6.hok
   have ub:=I6.base
   have IX:Inv X pins σ (upd H5 s2.heap.objs.size (.lst acc)) s6:=by
    refine I2.call' (ch:=fp) (s':=s6) I6.os ⟨λb o e n' hb hx=>ub.keep b o e n' hb hx,λb o e n' hb hx=>?_,λb o e n' hx=>?_,λb o e hx=>?_,λb xs e=>?_,λb o u e=>?_,λb ps e=>?_⟩
     (hok6.track nD ⟨hz,its,k,rv5,eD⟩) I6.bare λb hb=>⟨(f2 b hb).2.2.2.1,(f2 b hb).2.1,(f2 b hb).2.2.2.2.1,(f2 b hb).2.2.2.2.2⟩
    ·exact ub.slot b o e n' hb hx
    ·rw [xb (zU (Heap.lt_size e))]
     exact ub.free b o e n' hx
    ·exact ub.there b o e hx
    ·have z:=ub.tups b xs e
     rw [xb (xZ z nD)];exact z
    ·have z:=ub.frzs b o u e
     rw [xb (xZ z nD)];exact z
    ·obtain ⟨more,z⟩:=ub.tbls b ps e
     exact ⟨more,by rw [xb (xZ z nD)];exact z⟩
   have hCX:(upd H5 s2.heap.objs.size (.lst acc)) G.objs.size=none:=by rw [xb (Ne.symm hDC)];exact hC6
   have fC:FpOk X pins (upd H5 s2.heap.objs.size (.lst acc)) G.objs.size:=I2.fpOk hCle hCX
   obtain ⟨oC,esC,epC,gC,dC,rC⟩:=hm6
   have IP:=IX.pinned (fp:=[G.objs.size]) (λb hb=>by cases zF.mp hb;exact fC) (λb hb=>by cases zF.mp hb;exact ⟨oC,gC,λv z=>by rw [dC] at z;cases z⟩)
   refine wpAny_assign_Name (store_ok IP hN hix hxl (v:=.ref s2.heap.objs.size) rfl (λs7 I7=>?_) hf)
   have pC:=(I7.pin (G.objs.size,oC) (zP _ (zP _ (wq (zF.mpr rfl) gC)))).1
   refine ⟨m6,⟨oC,esC,epC,pC,dC,rC⟩,λh' hsb=>?_⟩
   have I8:Inv X pins (σ.set ix (some (.ref s2.heap.objs.size))) (upd H5 s2.heap.objs.size (.lst acc)) { s7 with heap:=h' }:=I7.unpinned.turned (t':=s7.toks) (λb o hb e=>hsb.extBut b o hb e) fC.1 fC.2.1 fC.2.2.2.1 fC.2.2.2.2.1 fC.2.2.2.2.2
   exact ⟨_,_,I8,q _ nD⟩
  ·refine thn (T.item Y rfl rfl rfl hc i _ s5 τ H5 (λ_ _=>False) I5 (stat fr5) st5 go) λr s6 ⟨u,hr,h6⟩=>?_
   subst hr
   refine thn h6 λ_ s7 ⟨x,H7,I7,r7,y7,st7,fr7⟩=>?_
   have I7':=I7.pinned (stat fr7) (T.obj _ _ st7)
   refine thn (hg s2 H2 fp G.objs.size _ s7 τ H7 x u _ I7' r7 (step x H7 y7)) λ_ s8 ⟨τ8,H8,I8,q8⟩=>?_
   refine thn (ht s2 H2 fp G.objs.size _ s8 τ8 H8 _ I8 q8) λok s9 ⟨H9,I9,q9⟩=>?_
   -- the iterator's state behind the turn
   have back:∀ {s':Shared}{τ':St}{H':Hp},Inv Y ([(s2.heap.objs.size,({ cls:=.type "list", data:=.seq its.toArray k }:Obj))]++pinsAt fp s7.heap) τ' H' s'->(tn (i + 1) s'.heap/\∀ b∈fp,H' b=none):=λ{s' τ' H'} Ib=>
    ⟨T.keep _ _ _ st7 λb hb o e=>(Ib.pin (b,o) (zP _ (zP _ (wq hb e)))).1,λb hb=>by
     obtain ⟨o,e,d⟩:=T.obj _ _ st7 b hb
     exact (Ib.pin (b,o) (zP _ (zP _ (wq hb e)))).2.1⟩
   cases ok with
   | false=>
    obtain ⟨m',hm',w'⟩:=q9
    obtain ⟨sb,fb⟩:=back I9
    exact ⟨m',hm',i + 1,τ8,acc,its,k,H9,I9.unpinned,sb,fb,rv5,w'⟩
   | true=>
    refine thn (he s2 H2 fp G.objs.size _ s9 τ8 H9 _ I9 q9) λy s10 ⟨yv,H10,I10,r10,q10⟩=>?_
    obtain ⟨m',hm',w'⟩:=q10
    obtain ⟨sb,fb⟩:=back I10
    obtain ⟨eD,nD,neD,nfD,_⟩:=I10.pin (s2.heap.objs.size,_) (zP _ (zx _ (zF.mpr rfl)))
    have hl:acc.length=its.length:=rv5.length
    refine call_meets F.slot_list_append ⟨_,eD,rfl⟩ F.entry_list_append (F.args_list_append_2 _ _) (PySem.list_append s2.heap.objs.size its.toArray k y (by rw [zM];omega)) ⟨eD,?_⟩
    have q:=PySem.IsL.update eD (λa:Array Value=>a.push y)
    have Iu:Inv Y [] τ8 H10 s10:=I10.pins_of λp hp=>nomatch hp
    have It:=Iu.turned (t':=s10.toks) (it:=s2.heap.objs.size) (h':=s10.heap.update s2.heap.objs.size (Obj.mapSeq (λa:Array Value=>a.push y))) (λb o hb e=>(Heap.get?_update_other s10.heap _ (Ne.symm hb)).trans e) nD neD (.inr (zD _))
     (λx c e z=>by
      obtain ⟨v,ob,hob,_⟩:=I2.cell x c (wM e)
      exact absurd (Heap.lt_size hob) (by rw [z];exact yF _)) (λp hp=>nomatch hp)
    have It':=It.pins_of (pins':=[(s2.heap.objs.size,({ cls:=.type "list", data:=.seq (its++[y]).toArray (k + 1) }:Obj))]) λp hp=>by
     have e:p=_:=zF.mp hp
     subst e
     exact ⟨by simpa using q,nD,neD,nfD,λv z=>nomatch z⟩
    refine ⟨m',hm',i + 1,τ8,acc++[yv],its++[y],_,H10,It',T.keep _ _ _ sb λb hb o e=>(Heap.get?_update_other s10.heap _ (yN (fl b hb))).trans e,fb,rv5.append (.cons r10 .nil),w'⟩
 exact codeAny_compStart_list loop (T.self _ 0 s4 _ _ st4 loop)
end
end L2
namespace L2
open PySem PySem.Spec PyProof.Rows
section
variable {n:Nat}{caps:List Nat}{σ:St}{H:Hp}{g:TG}{tc:TT}{te:TE}{Qf:Addr->Hp->List V->Prop}{K:PySem.W.Frag}{a b:Addr}{xs ys:List V}
end
section
variable {X:Cx}
theorem call_minL (hc:X.calm=true):CallR X (.builtin "min") (λxs H Q=>∃ p ns,xs=[.ref p]/\SqL X.K H p (List.map V.int ns)/\0 < ns.length/\∀ M,M∈ns->(∀ a∈ns,M<=a)->Q (.int M) H):=by
 intro pins s σ H xs us Q I r h
 obtain ⟨p,ns,rfl,hp,n0,q⟩:=h
 obtain ⟨u,rfl,ru⟩:=vals1 r
 cases ru
 obtain ⟨its,r,pl,_⟩:=I.list hp
 obtain ⟨ys,rfl,e⟩:=int_items r
 have hl:ys.length=ns.length:=by rw [<-e,zA]
 have li:s.heap.IsList p (intItems ys.toArray):=by
  have:=pl.isList
  unfold intItems
  rw [List.map_toArray]
  exact this
 refine min_intList (I.ok.hd hc) li (by simp;omega) λv h' tk hv k=>?_
 obtain ⟨t,rfl⟩:=intItems_at hv
 obtain ⟨b1,b2⟩:=argBest_lt (numAt ys.toArray) (ys.toArray.size - 1)
 have nat':∀ j (h:j < ns.length),numAt ys.toArray j=ns[j]:=λj h=>by
  rw [numAt_eq]
  simp [e,h]
 have sz:ys.toArray.size=ns.length:=by simp [hl]
 rw [sz] at b1 b2 ⊢
 refine ⟨.int _,H,I.kept k,⟨_,rfl⟩,q _ ?_ λa ha=>?_⟩
 ·rw [nat' _ (by omega)];exact zj _
 ·obtain ⟨j,hj,rfl⟩:=List.mem_iff_getElem.mp ha
  have:=b2 j (by omega)
  rw [nat' j hj] at this
  exact this
end
end L2
namespace Sm
open PySem L2 SmSort
end Sm
namespace Sm
open PySem L2 SmSort
theorem iteO {c:Bool}{A B:Prop}{D:Ends}{σ:St}{H:Hp} (Pre:St->Hp->Prop) (k:∀ σ H,Pre σ H->D.nx σ H) (h1:c=true->(∀ σ H,Pre σ H->D.nx σ H)->A) (h2:c=false->(∀ σ H,Pre σ H->D.nx σ H)->B):if c=true then (if true=true then A else tNext D σ H) else B:=by
 cases c with
 | true=>exact h1 rfl k
 | false=>exact h2 rfl k
theorem iteA {c:Bool} {T2 A:Prop}{D:Ends}{σ:St}{H:Hp} (Pre:St->Hp->Prop) (k:∀ σ H,Pre σ H->D.nx σ H) (h1:c=true->(∀ σ H,Pre σ H->D.nx σ H)->T2) (h2:c=false->Pre σ H):if c=true then T2 else (if false=true then A else tNext D σ H):=by
 cases c with
 | true=>exact h1 rfl k
 | false=>exact k _ _ (h2 rfl)
end Sm
namespace Sm
open PySem L2 SmSort
structure Loose (w:Int) (ms:List M4):Prop where
 few:ms.length<=60
 each:∀ r∈ms,0<=r.lo/\r.lo < r.hi/\r.hi < w/\1<=r.t/\r.t<=1000000000/\1<=r.m/\r.m<=99
 pw:ms.Pairwise λa b=>a.t=b.t->apart a b
theorem Good.loose {w:Int}{ms:List M4} (g:Good w ms):Loose w ms:=⟨g.few,g.each,g.order.imp λh e=>by
 rcases h with h | h
 ·omega
 ·exact h.2.2⟩
def ListAt (H:Hp) (l:Addr) (fs:List (Addr×M4)):Prop:=H l=some (.lst (fs.map λa=>V.ref a.1))/\RowsAt H fs
theorem ListAt.same {H H':Hp}{l:Addr}{fs:List (Addr×M4)} (h:ListAt H l fs) (s:Same H H'):ListAt H' l fs:=⟨s _ _ h.1,h.2.tups (Tups.same s)⟩
end Sm
namespace Sm
open PySem L2 SmSort
end Sm
namespace SmSet
open PySem
theorem below_go {xs:Array Nat}{j:Nat} (so:xs.toList.Pairwise (· < ·)):∀ (fuel lo hi:Nat),hi - lo<=fuel->lo<=hi->hi<=xs.size->(∀ i (h:i < xs.size),i < lo->xs[i] < j)->(∀ i (h:i < xs.size),hi<=i->j<=xs[i]) ->
  SetTable.below.go xs j fuel lo hi<=xs.size/\(∀ i (h:i < xs.size),i < SetTable.below.go xs j fuel lo hi->xs[i] < j)/\∀ i (h:i < xs.size),SetTable.below.go xs j fuel lo hi<=i->j<=xs[i]
 | 0,lo,hi,hf,h1,h2,hl,hh=>by
  have:lo=hi:=by omega
  subst this
  unfold SetTable.below.go
  exact ⟨h2,hl,hh⟩
 | fuel + 1,lo,hi,hf,h1,h2,hl,hh=>by
  unfold SetTable.below.go
  have mono:∀ a b (ha:a < xs.size) (hb:b < xs.size),a < b->xs[a] < xs[b]:=λa b ha hb ab=>by
   have:=zp.mp so a b (by simpa using ha) (by simpa using hb) ab
   simpa using this
  by_cases c:lo < hi
  ·rw [if_pos c]
   dsimp only
   have hm:(lo + hi) / 2 < xs.size:=by omega
   have e:xs.getD ((lo + hi) / 2) j=xs[(lo + hi) / 2]:=by simp [Array.getD,hm]
   rw [e]
   by_cases d:xs[(lo + hi) / 2] < j
   ·rw [if_pos d]
    refine below_go so fuel _ _ (by omega) (by omega) h2 (λi h hi'=>?_) hh
    by_cases q:i=(lo + hi) / 2
    ·subst q;exact d
    ·exact Nat.lt_trans (mono i ((lo + hi) / 2) h hm (by omega)) d
   ·rw [if_neg d]
    refine below_go so fuel _ _ (by omega) (by omega) (by omega) hl (λi h hi'=>?_)
    by_cases q:i=(lo + hi) / 2
    ·subst q;omega
    ·have:=mono ((lo + hi) / 2) i hm h (by omega)
     omega
  ·rw [if_neg c]
   have:lo=hi:=by omega
   subst this
   exact ⟨h2,hl,hh⟩
theorem below_spec {xs:Array Nat}{j:Nat} (so:xs.toList.Pairwise (· < ·)):SetTable.below xs j<=xs.size/\(∀ i (h:i < xs.size),i < SetTable.below xs j->xs[i] < j)/\∀ i (h:i < xs.size),SetTable.below xs j<=i->j<=xs[i]:=
 below_go so _ _ _ (by omega) (by omega) (zD _) (λ_ _ h=>absurd h (yI _)) (λi h hi=>absurd h (by omega))
theorem below_at {xs:Array Nat}{j i:Nat} (so:xs.toList.Pairwise (· < ·)) (h:xs[i]?=some j):SetTable.below xs j=i:=by
 obtain ⟨hi,e⟩:=Array.getElem?_eq_some_iff.mp h
 obtain ⟨b1,b2,b3⟩:=below_spec (j:=j) so
 rcases Nat.lt_trichotomy (SetTable.below xs j) i with c | c | c
 ·have hb:SetTable.below xs j < xs.size:=by omega
  have:=b3 _ hb (zD _)
  have m:=zp.mp so (SetTable.below xs j) i (by simpa using hb) (by simpa using hi) c
  simp only [Array.getElem_toList] at m
  omega
 ·exact c
 ·have:=b2 i hi c
  omega
theorem slot_live {t:SetTable}{j i:Nat} (so:t.place.toList.Pairwise (· < ·)) (h:t.place[i]?=some j):t.slot j=.live i:=by
 unfold SetTable.slot
 dsimp only
 rw [below_at so h,h]
 simp
theorem slot_empty {t:SetTable}{j:Nat} (nd:t.dummies=#[]) (h:j ∉ t.place.toList):t.slot j=.empty:=by
 unfold SetTable.slot
 dsimp only
 rw [if_neg,if_neg]
 ·rw [nd]
  unfold SetTable.has
  simp
 ·intro c
  have:t.place[SetTable.below t.place j]?=some j:=by simpa using c
  exact h (by simpa using Array.mem_of_getElem? this)
def adv (m:Nat) (p:SetTable.Probe):SetTable.Probe:=
 if p.more > 0 then { p with j:=p.j + 1,more:=p.more - 1 } else
 { p with j:=(SetTable.leap m p.i p.perturb).1,more:=SetTable.runEnd m (SetTable.leap m p.i p.perturb).1 - (SetTable.leap m p.i p.perturb).1,i:=(SetTable.leap m p.i p.perturb).1,perturb:=(SetTable.leap m p.i p.perturb).2 }
theorem advance_eq (t:SetTable) (p:SetTable.Probe):t.advance p=adv t.mask p:=rfl
def run (m i u:Nat):SetTable.Probe:={ j:=i,more:=SetTable.runEnd m i - i,i,perturb:=u,dummy:=none }
def start (m:Nat) (h:Int):SetTable.Probe:=run m (SetTable.bits h % (m + 1)) (SetTable.bits h)
def ad (m:Nat):Nat->SetTable.Probe->SetTable.Probe
 | 0,p=>p
 | n + 1,p=>ad m n (adv m p)
theorem ad_succ (m n:Nat) (p:SetTable.Probe):ad m (n + 1) p=adv m (ad m n p):=by
 induction n generalizing p with
 | zero=>rfl
 | succ n ih=>exact ih (adv m p)
theorem ad_add (m a b:Nat) (p:SetTable.Probe):ad m (a + b) p=ad m b (ad m a p):=by
 induction a generalizing p with
 | zero=>rw [xQ];rfl
 | succ a ih=>rw [Nat.succ_add];exact ih (adv m p)
theorem adv_dummy {m:Nat}{p:SetTable.Probe}:(adv m p).dummy=p.dummy:=by unfold adv;split <;> rfl
theorem ad_dummy {m:Nat}:∀ {n:Nat}{p:SetTable.Probe},(ad m n p).dummy=p.dummy
 | 0,_=>rfl
 | n + 1,p=>(ad_dummy (n:=n)).trans adv_dummy
def at' (m:Nat) (h:Int) (n:Nat):Nat:=(ad m n (start m h)).j
theorem ad_in_run {m i u:Nat}:∀ k,k<=SetTable.runEnd m i - i->ad m k (run m i u)={ j:=i + k,more:=SetTable.runEnd m i - i - k,i,perturb:=u,dummy:=none }
 | 0,_=>rfl
 | k + 1,h=>by
  rw [ad_succ,ad_in_run k (by omega)]
  unfold adv
  dsimp only
  rw [if_pos (by omega)]
  rfl
theorem ad_next_run {m i u:Nat}:ad m (SetTable.runEnd m i - i + 1) (run m i u)=run m ((i * 5 + 1 + u / 32) % (m + 1)) (u / 32):=by
 rw [ad_succ,ad_in_run _ (zD _)]
 unfold adv
 dsimp only
 rw [if_neg (by omega)]
 rfl
theorem runEnd_le {m i:Nat}:SetTable.runEnd m i - i<=9/\i<=SetTable.runEnd m i/\(i<=m->SetTable.runEnd m i<=m):=by
 unfold SetTable.runEnd
 split <;> omega
def runs (m:Nat):Nat->Nat->Nat->Nat×Nat
 | 0,i,u=>(i,u)
 | r + 1,i,u=>runs m r ((i * 5 + 1 + u / 32) % (m + 1)) (u / 32)
theorem runs_at {m:Nat}:∀ (r i u:Nat),∃ c,c<=10 * r/\ad m c (run m i u)=run m (runs m r i u).1 (runs m r i u).2
 | 0,i,u=>⟨0,zD _,rfl⟩
 | r + 1,i,u=>by
  obtain ⟨c,hc,e⟩:=runs_at r ((i * 5 + 1 + u / 32) % (m + 1)) (u / 32)
  refine ⟨SetTable.runEnd m i - i + 1 + c,?_,?_⟩
  ·have:=(runEnd_le (m:=m) (i:=i)).1;omega
  ·rw [ad_add,ad_next_run,e];rfl
theorem runs_add {m:Nat}:∀ (a b i u:Nat),runs m (a + b) i u=runs m b (runs m a i u).1 (runs m a i u).2
 | 0,b,i,u=>by rw [xQ];rfl
 | a + 1,b,i,u=>by rw [Nat.succ_add];exact runs_add a b _ _
theorem runs_perturb {m:Nat}:∀ (r i u:Nat),(runs m r i u).2=u / 32 ^ r
 | 0,i,u=>by simp [runs]
 | r + 1,i,u=>by
  show (runs m r _ (u / 32)).2=_
  rw [runs_perturb r,Nat.div_div_eq_div_mul,Nat.pow_succ,xR]
theorem runs_small {m:Nat}:∀ (r i u:Nat),i<=m->(runs m r i u).1<=m
 | 0,i,u,h=>h
 | r + 1,i,u,h=>runs_small r _ _ (yT.mp (Nat.mod_lt _ (by omega)))
def f5 (m:Nat):Nat->Nat->Nat
 | 0,i=>i
 | s + 1,i=>f5 m s ((i * 5 + 1) % (m + 1))
theorem runs_f5 {m:Nat}:∀ (s i:Nat),(runs m s i 0).1=f5 m s i
 | 0,i=>rfl
 | s + 1,i=>by
  show (runs m s ((i * 5 + 1 + 0 / 32) % (m + 1)) (0 / 32)).1=f5 m s ((i * 5 + 1) % (m + 1))
  rw [Nat.zero_div,Nat.add_zero]
  exact runs_f5 s _
theorem f5_add {m:Nat}:∀ (a b i:Nat),f5 m (a + b) i=f5 m b (f5 m a i)
 | 0,b,i=>by rw [xQ];rfl
 | a + 1,b,i=>by rw [Nat.succ_add];exact f5_add a b _
def bitsOf (m:Nat):Nat->Nat->Nat->Nat
 | 0,_,acc=>acc
 | s + 1,i,acc=>bitsOf m s ((i * 5 + 1) % (m + 1)) (acc ||| (2 ^ i))
theorem bitsOf_spec {m j:Nat}:∀ (s i acc:Nat),(bitsOf m s i acc).testBit j=true->acc.testBit j=true\/∃ a,a < s/\f5 m a i=j
 | 0,i,acc,h=>.inl h
 | s + 1,i,acc,h=>by
  rcases bitsOf_spec s _ _ h with h | ⟨a,ha,e⟩
  ·rw [Nat.testBit_or,Bool.or_eq_true] at h
   rcases h with h | h
   ·exact .inl h
   ·rw [Nat.testBit_two_pow] at h
    exact .inr ⟨0,by omega,of_decide_eq_true h⟩
  ·exact .inr ⟨a + 1,by omega,e⟩
def Mask (m:Nat):Prop:=m=7\/m=31\/m=127\/m=511\/m=2047\/m=8191
theorem cover0 {m:Nat} (hm:Mask m):f5 m (m + 1) 0=0/\∀ j,j<=m->∃ a,a<=m/\f5 m a 0=j:=by
 have key:f5 m (m + 1) 0=0/\bitsOf m (m + 1) 0 0=2 ^ (m + 1) - 1:=by
  rcases hm with rfl | rfl | rfl | rfl | rfl | rfl <;> constructor <;> decide +kernel
 refine ⟨key.1,λj hj=>?_⟩
 have:(bitsOf m (m + 1) 0 0).testBit j=true:=by
  rw [key.2,Nat.testBit_two_pow_sub_one]
  exact decide_eq_true (by omega)
 rcases bitsOf_spec _ _ _ this with h | ⟨a,ha,e⟩
 ·simp at h
 ·exact ⟨a,by omega,e⟩
theorem cover {m i j:Nat} (hm:Mask m) (hi:i<=m) (hj:j<=m):∃ s,s<=m/\f5 m s i=j:=by
 obtain ⟨z,all⟩:=cover0 hm
 obtain ⟨a,ha,rfl⟩:=all i hi
 obtain ⟨b,hb,rfl⟩:=all j hj
 by_cases c:a<=b
 ·exact ⟨b - a,by omega,by rw [<-f5_add];congr 1;omega⟩
 ·refine ⟨b + (m + 1) - a,by omega,?_⟩
  rw [<-f5_add,show a + (b + (m + 1) - a)=(m + 1) + b from by omega,f5_add,z]
theorem reach {m i u j:Nat} (hm:Mask m) (hi:i<=m) (hu:u < 2 ^ 64) (hj:j<=m):∃ r,r<=m + 13/\(runs m r i u).1=j:=by
 have p0:(runs m 13 i u).2=0:=by
  rw [runs_perturb]
  exact Nat.div_eq_of_lt (zR hu (by decide))
 obtain ⟨s,hs,e⟩:=cover hm (runs_small 13 i u hi) hj
 refine ⟨13 + s,by omega,?_⟩
 rw [runs_add,p0,runs_f5,e]
theorem bits_lt (h:Int):SetTable.bits h < 2 ^ 64:=by
 unfold SetTable.bits
 have a:=yj h (show (2 ^ 64:Int)≠0 by decide)
 have b:=yU h (show (0:Int) < 2 ^ 64 by decide)
 have c:((h % 2 ^ 64).toNat:Int)=h % 2 ^ 64:=yS a
 have d:((2 ^ 64:Nat):Int)=(2:Int) ^ 64:=by decide
 omega
theorem reach_at {m j:Nat}{h:Int} (hm:Mask m) (hj:j<=m):∃ n,n<=10 * (m + 13)/\at' m h n=j:=by
 obtain ⟨r,hr,e⟩:=reach (u:=SetTable.bits h) hm (yT.mp (Nat.mod_lt (SetTable.bits h) (show 0 < m + 1 by omega))) (bits_lt h) hj
 obtain ⟨c,hc,e2⟩:=runs_at (m:=m) r (SetTable.bits h % (m + 1)) (SetTable.bits h)
 refine ⟨c,by omega,?_⟩
 unfold at' start
 rw [e2,e];rfl
theorem least {P:Nat->Prop}:∀ n,P n->∃ k,k<=n/\P k/\∀ i,i < k->¬ P i:=by
 intro n
 induction n using Nat.strongRecOn with
 | _ n ih=>
  intro h
  by_cases c:∃ i,i < n/\P i
  ·obtain ⟨i,hi,pi⟩:=c
   obtain ⟨k,hk,pk,al⟩:=ih i hi pi
   exact ⟨k,by omega,pk,al⟩
  ·exact ⟨n,zD _,h,λi hi pi=>c ⟨i,hi,pi⟩⟩
theorem first_free {m:Nat}{O:Nat->Prop} (h:Int) (hm:Mask m) (he:∃ j,j<=m/\¬ O j):∃ N,N<=10 * (m + 13)/\¬ O (at' m h N)/\∀ n,n < N->O (at' m h n):=by
 obtain ⟨j,hj,no⟩:=he
 obtain ⟨n,hn,e⟩:=reach_at (h:=h) hm hj
 obtain ⟨k,hk,pk,al⟩:=least (P:=λn=>¬ O (at' m h n)) n (by rw [e];exact no)
 exact ⟨k,by omega,pk,λi hi=>Classical.byContradiction λc=>al i hi c⟩
theorem at_le {m:Nat}{h:Int}:∀ n,at' m h n<=m:=by
 have key:∀ n,(ad m n (start m h)).j + (ad m n (start m h)).more<=m:=by
  have step:∀ p:SetTable.Probe,p.j + p.more<=m->(adv m p).j + (adv m p).more<=m:=λp hp=>by
   unfold adv
   split
   ·dsimp only;omega
   ·dsimp only
    have l:(SetTable.leap m p.i p.perturb).1<=m:=yT.mp (Nat.mod_lt _ (by omega))
    have:=runEnd_le (m:=m) (i:=(SetTable.leap m p.i p.perturb).1)
    have:=this.2.2 l
    omega
  intro n
  induction n with
  | zero=>
   show SetTable.bits h % (m + 1) + (SetTable.runEnd m (SetTable.bits h % (m + 1)) - SetTable.bits h % (m + 1))<=m
   have l:SetTable.bits h % (m + 1)<=m:=yT.mp (Nat.mod_lt _ (by omega))
   have:=runEnd_le (m:=m) (i:=SetTable.bits h % (m + 1))
   have:=this.2.2 l
   omega
  | succ n ih=>rw [ad_succ];exact step _ ih
 intro n
 have:=key n
 unfold at'
 omega
end SmSet
namespace SmSet
open PySem
structure Tab (t:SetTable) (es:Array (Int×Value)):Prop where
 mask:Mask t.mask
 nd:t.dummies=#[]
 so:t.place.toList.Pairwise (· < ·)
 sz:t.place.size=es.size
 small:∀ j∈t.place.toList,j<=t.mask
 light:es.size * 5 < t.mask * 3
 way:∀ i (h:i < es.size),∃ n,t.place[i]?=some (at' t.mask es[i].1 n)/\∀ n',n' < n->at' t.mask es[i].1 n'∈t.place.toList
theorem Tab.room {t:SetTable}{es:Array (Int×Value)} (T:Tab t es):es.size<=t.mask:=by have:=T.light;omega
theorem Tab.fits {t:SetTable}{es:Array (Int×Value)} (T:Tab t es):t.fits es.size=true:=by
 unfold SetTable.fits SetTable.fill
 have:=T.room
 rw [T.sz,T.nd]
 simp
 exact this
theorem Tab.odd {t:SetTable}{es:Array (Int×Value)} (T:Tab t es):t.gaveWay=false:=by
 unfold SetTable.gaveWay
 rcases T.mask with h | h | h | h | h | h <;> rw [h] <;> rfl
theorem as_long:∀ (n:Nat) (l:List Nat),(∀ j,j < n->j∈l)->n<=l.length
 | 0,_,_=>zc _
 | n + 1,l,h=>by
  have:=as_long n (l.erase n) λj hj=>(List.mem_erase_of_ne (by omega)).mpr (h j (by omega))
  rw [List.length_erase_of_mem (h n (by omega))] at this
  have:=List.length_pos_of_mem (h n (by omega))
  omega
theorem left_out {l:List Nat}{m:Nat} (h:l.length<=m):∃ j,j<=m/\j ∉ l:=by
 refine Classical.byContradiction λc=>?_
 have:=as_long (m + 1) l λj hj=>Classical.byContradiction λz=>c ⟨j,by omega,z⟩
 omega
theorem Tab.left {t:SetTable}{es:Array (Int×Value)} (T:Tab t es):∃ j,j<=t.mask/\¬ j∈t.place.toList:=by
 have:=left_out (l:=t.place.toList) (m:=t.mask) (by rw [Array.length_toList,T.sz];exact T.room)
 exact this
theorem Tab.first {t:SetTable}{es:Array (Int×Value)} (T:Tab t es) (h:Int):∃ N,N<=10 * (t.mask + 13)/\¬ at' t.mask h N∈t.place.toList/\∀ n,n < N->at' t.mask h n∈t.place.toList:=first_free h T.mask T.left
theorem at_index {t:SetTable}{j:Nat} (h:j∈t.place.toList):∃ i:Nat,t.place[i]?=some j:=by
 obtain ⟨i,hi,e⟩:=yl h
 exact ⟨i,by rw [<-Array.getElem?_toList,zL hi,e]⟩
theorem probe_go {t:SetTable}{es:Array (Int×Value)} (T:Tab t es) {hashAt:Nat->Int}{h:Int}{N:Nat} (hN:¬ at' t.mask h N∈t.place.toList) (hall:∀ n,n < N->at' t.mask h n∈t.place.toList) :
  ∀ (d k fuel:Nat),N - k=d->k<=N->d < fuel ->
   (∃ n i,k<=n/\n < N/\t.place[i]?=some (at' t.mask h n)/\hashAt i=h/\(∀ n',k<=n'->n' < n->∀ i',t.place[i']?=some (at' t.mask h n')->hashAt i'≠h)/\SetTable.probe.go t hashAt h fuel (ad t.mask k (start t.mask h))=some (.candidate (at' t.mask h n) i (ad t.mask (n + 1) (start t.mask h)))) \/
   ((∀ n',k<=n'->n' < N->∀ i',t.place[i']?=some (at' t.mask h n')->hashAt i'≠h)/\SetTable.probe.go t hashAt h fuel (ad t.mask k (start t.mask h))=some (.empty (at' t.mask h N) none))
 | d,k,0,e,hk,hf=>absurd hf (yI _)
 | 0,k,fuel + 1,e,hk,hf=>by
  have:k=N:=by omega
  subst this
  refine .inr ⟨λn' h1 h2=>absurd h1 (by omega),?_⟩
  unfold SetTable.probe.go
  rw [show (ad t.mask k (start t.mask h)).j=at' t.mask h k from rfl,slot_empty T.nd hN]
  dsimp only
  rw [ad_dummy]
  rfl
 | d + 1,k,fuel + 1,e,hk,hf=>by
  obtain ⟨i,hi⟩:=at_index (hall k (by omega))
  by_cases c:hashAt i=h
  ·refine .inl ⟨k,i,zD _,by omega,hi,c,λn' h1 h2=>absurd h1 (by omega),?_⟩
   unfold SetTable.probe.go
   rw [show (ad t.mask k (start t.mask h)).j=at' t.mask h k from rfl,slot_live T.so hi]
   dsimp only
   rw [if_pos (by rw [c];simp),advance_eq,<- ad_succ]
  ·have step:SetTable.probe.go t hashAt h (fuel + 1) (ad t.mask k (start t.mask h))=SetTable.probe.go t hashAt h fuel (ad t.mask (k + 1) (start t.mask h)):=by
    conv=>lhs;unfold SetTable.probe.go
    rw [show (ad t.mask k (start t.mask h)).j=at' t.mask h k from rfl,slot_live T.so hi]
    dsimp only
    rw [if_neg (by simpa using c),advance_eq,<- ad_succ]
   have here:∀ i',t.place[i']?=some (at' t.mask h k)->hashAt i'≠h:=λi' hi'=>by
    have:=(below_at T.so hi').symm.trans (below_at T.so hi)
    rw [this];exact c
   rw [step]
   rcases probe_go T hN hall d (k + 1) fuel (by omega) (by omega) (by omega) with ⟨n,i2,a1,a2,a3,a4,a5,a6⟩ | ⟨a1,a2⟩
   ·refine .inl ⟨n,i2,by omega,a2,a3,a4,λn' h1 h2 i' hi'=>?_,a6⟩
    by_cases q:n'=k
    ·subst q;exact here i' hi'
    ·exact a5 n' (by omega) h2 i' hi'
   ·refine .inr ⟨λn' h1 h2 i' hi'=>?_,a2⟩
    by_cases q:n'=k
    ·subst q;exact here i' hi'
    ·exact a1 n' (by omega) h2 i' hi'
end SmSet
namespace SmSet
open PySem
section
variable {prog:Program}{w:World}{K:Type} [DecidableEq K] {knd:HeapKind prog w K}{A:Around}{E:Value->Shared->Prop}{s:Shared}{a:Addr}
def Keys (knd:HeapKind prog w K) (h:Heap) (es:Array (Int×Value)) (ks:Nat->K):Prop:=∀ i (hi:i < es.size),∃ b,es[i]=(knd.hash (ks i),.ref b)/\knd.is h (ks i) b
def Calm (knd:HeapKind prog w K) (A:Around) (s:Shared):Prop:=∀ (k:K) (b:Addr),knd.is s.heap k b->∀ (E:Value->Shared->Prop) (Q:Bool->Shared->Prop),Q false s->wpAny (model prog w) A (ofAClassStatement 8 (.ref b)) Q E s
theorem not_seen {k:K}{c:Addr} (hk:knd.is s.heap k c) (cl:Calm knd A s):∀ (ys:List Value),(∀ y∈ys,∃ k b,y=.ref b/\knd.is s.heap k b)->∀ {Q:Bool->Shared->Prop},Q false s->wpAny (model prog w) A (searchCouldBeSeen (.ref c) ys) Q E s:=by
 intro ys hy Q q
 unfold searchCouldBeSeen
 refine wpAny_bind ?_
 refine wpAny_forIn_list _ (λrest r s'=>r.1=none/\s'=s/\∀ y∈rest,∃ k b,y=.ref b/\knd.is s.heap k b) _ ?_ ?_ _ _ ⟨rfl,rfl,hy⟩
 ·rintro y rest r s' ⟨hr,rfl,hall⟩
  obtain ⟨k2,b,rfl,hb⟩:=hall _ z4
  have next:∀ u∈rest,∃ k b,u=Value.ref b/\knd.is s'.heap k b:=λu hu=>hall u (zf _ hu)
  dsimp only
  split
  ·exact wpAny_pure ⟨rfl,rfl,next⟩
  ·refine wpAny_bind (knd.quiet hk ?_)
   simp only [Bool.not_true,zb,if_false]
   refine wpAny_bind (knd.quiet hb ?_)
   simp only [Bool.not_true,zb,if_false]
   refine wpAny_bind (cl _ _ hk _ _ ?_)
   simp only [zb,if_false]
   refine wpAny_bind (cl _ _ hb _ _ ?_)
   simp only [zb,if_false]
   exact wpAny_pure ⟨rfl,rfl,next⟩
 ·rintro ⟨r1,r2⟩ s' ⟨hr,rfl,_⟩
  simp only at hr
  subst hr
  exact wpAny_pure q
theorem search {o:Obj}{es:Array (Int×Value)}{ep:Nat}{t:SetTable}{ks:Nat->K}{kx:K}{c:Addr}{adding:Bool}{Q:SetFound->Shared->Prop} (hr:knd.room A) (ho:s.heap.get? a=some o) (hd:o.data=.set es ep t) (T:Tab t es) (ke:Keys knd s.heap es ks) (hx:knd.is s.heap kx c) (cl:Calm knd A s)
  (qt:∀ r:Option Nat,(r=none->adding=true)->(∃ i,i < es.size/\ks i=kx)->Q (.there r) s) {N:Nat} (hN:¬ at' t.mask (knd.hash kx) N∈t.place.toList) (hall:∀ n,n < N->at' t.mask (knd.hash kx) n∈t.place.toList) (hNb:N<=10 * (t.mask + 13))
  (qf:(∀ i,i < es.size->ks i≠kx)->Q (.free (at' t.mask (knd.hash kx) N) false) s) :
  ∀ (fuel k:Nat) (st:Option SetTable.Probe),N - k < fuel->k<=N->st.getD (t.probeStart (knd.hash kx))=ad t.mask k (start t.mask (knd.hash kx))->(∀ n',n' < k->∀ i',t.place[i']?=some (at' t.mask (knd.hash kx) n')->ks i'≠kx) ->
   wpAny (model prog w) A (setSearchFrom a (.ref c) (knd.hash kx) adding fuel st) Q E s
 | 0,k,st,hf,_,_,_=>absurd hf (yI _)
 | fuel + 1,k,st,hf,hk,hst,prev=>by
  unfold setSearchFrom
  refine wpAny_bind (wpAny_setState_of ho hd T.fits ?_)
  dsimp only
  rw [T.odd,hst]
  simp only [zb,if_false]
  unfold SetTable.probe
  rcases probe_go T hN hall (hashAt:=λi=>((es[i]?).map (·.1)).getD 0) _ k (10 * SetTable.turns t.mask) rfl hk (by unfold SetTable.turns;omega) with ⟨n,i,a1,a2,a3,a4,a5,a6⟩ | ⟨a1,a2⟩
  ·generalize hp:SetTable.probe.go t _ (knd.hash kx) (10 * SetTable.turns t.mask) (ad t.mask k (start t.mask (knd.hash kx)))=pr
   have e:=hp.symm.trans a6
   subst e
   have hi:i < es.size:=by
    have:=(Array.getElem?_eq_some_iff.mp a3).1
    rw [T.sz] at this;exact this
   obtain ⟨b,eb,hb⟩:=ke i hi
   have eg:es[i]?=some (knd.hash (ks i),.ref b):=by rw [<-eb];exact Array.getElem?_eq_getElem hi
   dsimp only
   rw [eg]
   dsimp only
   have sl:=slot_live T.so a3
   have mem:t.sameMemory t.moves t.mask=some true:=by simp [SetTable.sameMemory]
   have again:=search (adding:=adding) hr ho hd T ke hx cl qt hN hall hNb qf fuel (n + 1) (some (ad t.mask (n + 1) (start t.mask (knd.hash kx)))) (by omega) (by omega) rfl
   have more:ks i≠kx->∀ n',n' < n + 1->∀ i',t.place[i']?=some (at' t.mask (knd.hash kx) n')->ks i'≠kx:=λne n' hn i' hi'=>by
    by_cases q:n' < k
    ·exact prev n' q i' hi'
    by_cases q2:n'=n
    ·subst q2
     have:=(below_at T.so hi').symm.trans (below_at T.so a3)
     rw [this];exact ne
    ·intro z
     have hl:i' < es.size:=by
      have:=(Array.getElem?_eq_some_iff.mp hi').1
      rw [T.sz] at this;exact this
     obtain ⟨b',eb',_⟩:=ke i' hl
     exact a5 n' (by omega) (by omega) i' hi' (by simp [eb',hl,z])
   have stored:∀ y∈List.map (λx=>x.snd) (Array.filter (λx=>x.fst == knd.hash kx) es).toList,∃ k b,y=Value.ref b/\knd.is s.heap k b:=λy hy=>by
    obtain ⟨e,he,rfl⟩:=zQ.mp hy
    have he:e∈es:=by
     have:e∈es/\e.fst=knd.hash kx:=by simpa using he
     exact this.1
    obtain ⟨j,hj,rfl⟩:=Array.getElem_of_mem he
    obtain ⟨b',eb',hb'⟩:=ke j hj
    exact ⟨_,b',by rw [eb'],hb'⟩
   split
   ·refine wpAny_bind (not_seen hx cl _ stored ?_)
    simp only [zb,if_false]
    refine wpAny_bind (wpAny_holding (knd.eqBool hr hb hx ?_))
    refine wpAny_bind (wpAny_setState_of ho hd T.fits ?_)
    dsimp only
    rw [mem]
    dsimp only
    rw [if_pos (show (true=true) from rfl),sl]
    dsimp only
    rw [eg]
    dsimp only
    by_cases q:ks i=kx
    ·rw [decide_eq_true q]
     cases adding with
     | true=>exact wpAny_pure (qt _ (λ_=>rfl) ⟨i,hi,q⟩)
     | false=>
      simp only [yX,zb,if_false]
      refine wpAny_bind (wpAny_isSame_ref_self ?_)
      exact wpAny_pure (qt _ (λz=>by cases z) ⟨i,hi,q⟩)
    ·rw [decide_eq_false q]
     simp only [xD,zb,if_false]
     refine wpAny_bind (wpAny_isSame_ref_self ?_)
     exact again (more q)
   ·refine wpAny_bind (wpAny_holding (knd.eqBool hr hb hx ?_))
    refine wpAny_bind (wpAny_setState_of ho hd T.fits ?_)
    dsimp only
    rw [mem]
    dsimp only
    rw [if_pos (show (true=true) from rfl),sl]
    dsimp only
    rw [eg]
    dsimp only
    by_cases q:ks i=kx
    ·rw [decide_eq_true q]
     cases adding with
     | true=>exact wpAny_pure (qt _ (λ_=>rfl) ⟨i,hi,q⟩)
     | false=>
      simp only [yX,zb,if_false]
      refine wpAny_bind (wpAny_isSame_ref_self ?_)
      exact wpAny_pure (qt _ (λz=>by cases z) ⟨i,hi,q⟩)
    ·rw [decide_eq_false q]
     simp only [xD,zb,if_false]
     refine wpAny_bind (wpAny_isSame_ref_self ?_)
     exact again (more q)
  ·generalize hp:SetTable.probe.go t _ (knd.hash kx) (10 * SetTable.turns t.mask) (ad t.mask k (start t.mask (knd.hash kx)))=pr
   have e:=hp.symm.trans a2
   subst e
   dsimp only
   refine wpAny_pure (qf λi hi z=>?_)
   obtain ⟨m,hm,al⟩:=T.way i hi
   obtain ⟨b,eb,_⟩:=ke i hi
   rw [eb] at hm al
   dsimp only at hm al
   rw [z] at hm al
   have mN:m < N:=Classical.byContradiction λc=>by
    by_cases q:N=m
    ·subst q
     exact hN (by simpa using Array.mem_of_getElem? hm)
    ·exact hN (al N (by omega))
   by_cases q:m < k
   ·exact prev m q i hm z
   ·refine a1 m (by omega) mN i hm ?_
    simp [eb,hi,z]
structure SetT (knd:HeapKind prog w K) (h:Heap) (a:Addr) (es:Array (Int×Value)) (ep:Nat) (t:SetTable) (ks:Nat->K):Prop where
 obj:h.get? a=some { cls:=.type "set", data:=.set es ep t }
 tab:Tab t es
 keys:Keys knd h es ks
theorem find {es:Array (Int×Value)}{ep:Nat}{t:SetTable}{ks:Nat->K}{kx:K}{c:Addr}{Q:Option Nat->Shared->Prop} (hr:knd.room A) (S:SetT knd s.heap a es ep t ks) (hx:knd.is s.heap kx c) (cl:Calm knd A s)
  (qt:∀ r:Option Nat,r.isSome=true->(∃ i,i < es.size/\ks i=kx)->Q r s) (qf:(∀ i,i < es.size->ks i≠kx)->Q none s):wpAny (model prog w) A (setFind a (.ref c) (knd.hash kx)) Q E s:=by
 obtain ⟨N,n1,n2,n3⟩:=S.tab.first (knd.hash kx)
 unfold setFind setFindIn
 refine wpAny_bind (wpAny_setState_of S.obj rfl S.tab.fits ?_)
 dsimp only
 rw [show byScan (.ref c) es=false from rfl]
 simp only [zb,if_false]
 refine wpAny_bind ?_
 unfold setSearch
 have lim:10 * (t.mask + 13) < 100000:=by
  rcases S.tab.mask with h | h | h | h | h | h <;> rw [h] <;> decide
 refine search hr S.obj rfl S.tab S.keys hx cl (λr h f=>?_) n2 n3 n1 (λnf=>?_) 100000 0 none (by omega) (zc _) rfl (λn' h=>absurd h (yI _))
 ·refine wpAny_pure (qt r ?_ f)
  cases r with
  | none=>cases h rfl
  | some i=>rfl
 ·exact wpAny_pure (qf nf)
theorem set_typeIs {es:Array (Int×Value)}{ep:Nat}{t:SetTable}{ks:Nat->K} (S:SetT knd s.heap a es ep t ks):s.TypeIs (.ref a) "set" := ⟨_,S.obj,rfl⟩
theorem inSet {es:Array (Int×Value)}{ep:Nat}{t:SetTable}{ks:Nat->K}{kx:K}{c:Addr}{Q:Value->Shared->Prop} (hr:knd.room A.in1) (S:SetT knd s.heap a es ep t ks) (hx:knd.is s.heap kx c) (cl:∀ B (s':Shared),s'.heap=s.heap->Calm knd B s')
  (qt:(∃ i,i < es.size/\ks i=kx)->Q (.bool true) { s with toks:=s.toks + knd.draws kx }) (qf:(∀ i,i < es.size->ks i≠kx)->Q (.bool false) { s with toks:=s.toks + knd.draws kx }):wpAny (model prog w) A (compareOp .In (.ref c) (.ref a)) Q E s:=by
 have hT:=set_typeIs S
 show wpAny _ _ (do return .bool (<- contains (.ref a) (.ref c))) Q E s
 refine wpAny_bind ?_
 unfold contains
 try with_reducible refine wpAny_holding ?_
 refine wpAny_bind (wpAny_specialOf hT F.slot_set_contains.lookup ?_)
 show wpAny _ _ (if (some (Value.builtin "set.__contains__") == some Value.none)=true then _ else _) _ E s
 rw [if_neg (by rw [beq_builtin_none];exact zJ)]
 refine wpAny_bind (wpAny_callSpecialUnlessNone?_slot (name:=Str.ofString "__contains__") hT F.slot_set_contains
  (wpAny_call_entry F.slot_set_contains hT entry_set_contains ?_ (F.args_set_contains_2 _ _)))
 unfold Builtin.«frozenset.__contains__» Builtin.Frozenset.oneOther
 simp only [List.isEmpty_nil,bind_assoc]
 unfold Builtin.Frozenset.addrOf Builtin.Frozenset.withSetAsKey setContains
 refine wpAny_bind (wpAny_pure ?_)
 try dsimp only
 refine wpAny_bind (wpAny_pure ?_)
 try dsimp only
 refine wpAny_bind (wpAny_tryCatch ?_)
 refine wpAny_holding ?_
 refine wpAny_bind (knd.pyHash hr hx ?_)
 refine wpAny_bind (find (s:={ s with toks:=s.toks + knd.draws kx }) hr ⟨S.obj,S.tab,S.keys⟩ hx (cl _ _ rfl) (λr hs f=>?_) (λnf=>?_))
 ·refine wpAny_pure ?_
  show wpAny _ _ (ret (Value.bool r.isSome)) _ _ _
  rw [hs]
  exact wpAny_pure ⟨_,rfl,wpAny_truthy_bool (wpAny_pure (qt f))⟩
 ·refine wpAny_pure ?_
  show wpAny _ _ (ret (Value.bool false)) _ _ _
  exact wpAny_pure ⟨_,rfl,wpAny_truthy_bool (wpAny_pure (qf nf))⟩
end
end SmSet
namespace SmSet
open PySem
theorem insert_get {α:Type}{l:List α}{p:Nat}{x:α} (hp:p<=l.length) (i:Nat):(l.take p++x::l.drop p)[i]?=if i < p then l[i]? else if i=p then some x else l[i - 1]?:=by
 have lt:(l.take p).length=p:=by rw [zX];omega
 by_cases c:i < p
 ·rw [if_pos c,zV (by omega),List.getElem?_take_of_lt c]
 ·rw [if_neg c,zY (by omega),lt]
  by_cases d:i=p
  ·rw [if_pos d,d,xJ];rfl
  ·rw [if_neg d,show i - p=(i - p - 1) + 1 from by omega,yB,List.getElem?_drop]
   congr 1;omega
theorem Tab.put {t:SetTable}{es:Array (Int×Value)} (T:Tab t es) {h:Int}{x:Value}{N:Nat} (hN:¬ at' t.mask h N∈t.place.toList) (hall:∀ n,n < N->at' t.mask h n∈t.place.toList) (pl:Bool) :
  (((es.size + 1) * 5 < t.mask * 3)->Tab { (t.put (at' t.mask h N)).1 with plain:=pl } (SetTable.insertAt es (t.put (at' t.mask h N)).2 (h,x)))/\(t.put (at' t.mask h N)).1.dummies=#[]/\(t.put (at' t.mask h N)).1.mask=t.mask/\(t.put (at' t.mask h N)).1.place.size=es.size + 1:=by
 have e1:(t.put (at' t.mask h N)).1={ t with place:=SetTable.insertAt t.place (SetTable.below t.place (at' t.mask h N)) (at' t.mask h N) }:=by
  unfold SetTable.put
  dsimp only
  rw [T.nd]
  unfold SetTable.has
  simp
 have e2:(t.put (at' t.mask h N)).2=SetTable.below t.place (at' t.mask h N):=rfl
 rw [e1,e2]
 generalize hj:at' t.mask h N=j at *
 obtain ⟨b1,b2,b3⟩:=below_spec (j:=j) T.so
 generalize hp:SetTable.below t.place j=p at *
 have lp:(SetTable.insertAt t.place p j).toList=t.place.toList.take p++j::t.place.toList.drop p:=SetTable.toList_insertAt ..
 have le:(SetTable.insertAt es p (h,x)).toList=es.toList.take p++(h,x)::es.toList.drop p:=SetTable.toList_insertAt ..
 have p1:p<=t.place.toList.length:=by rw [Array.length_toList];exact b1
 have p2:p<=es.toList.length:=by rw [Array.length_toList,<- T.sz];exact b1
 have s1:(SetTable.insertAt t.place p j).size=es.size + 1:=by
  rw [<-Array.length_toList,lp,zE,zW,zX,yo,Array.length_toList,<- T.sz];omega
 have s2:(SetTable.insertAt es p (h,x)).size=es.size + 1:=by
  rw [<-Array.length_toList,le,zE,zW,zX,yo,Array.length_toList]
  have:=T.sz
  omega
 have mem:∀ j',j'∈(SetTable.insertAt t.place p j).toList↔j'=j\/j'∈t.place.toList:=λj'=>by
  rw [lp,zT,zH]
  constructor
  ·rintro (h | h | h)
   ·exact .inr (List.mem_of_mem_take h)
   ·exact .inl h
   ·exact .inr (List.mem_of_mem_drop h)
  ·rintro (h | h)
   ·exact .inr (.inl h)
   ·rw [<-List.take_append_drop p t.place.toList,zT] at h
    exact h.imp id .inr
 refine ⟨λlight=>⟨T.mask,T.nd,?_,by rw [s2];exact s1,λj' hj'=>?_,by rw [s2];exact light,λi hi=>?_⟩,T.nd,rfl,s1⟩
 ·show (SetTable.insertAt t.place p j).toList.Pairwise (· < ·)
  rw [lp,List.pairwise_append,List.pairwise_cons]
  refine ⟨T.so.sublist (List.take_sublist _ _),⟨λy hy=>?_,T.so.sublist (List.drop_sublist _ _)⟩,λy hy z hz=>?_⟩
  ·obtain ⟨i,hi,e⟩:=yl hy
   rw [List.getElem_drop] at e
   have hl:p + i < t.place.size:=by rw [yo,Array.length_toList] at hi;omega
   have q:=b3 (p + i) hl (by omega)
   rw [Array.getElem_toList] at e
   rw [e] at q
   have ne:y≠j:=λz=>hN (by rw [<-z];exact List.mem_of_mem_drop hy)
   omega
  ·obtain ⟨i,hi,e⟩:=yl hy
   rw [List.getElem_take] at e
   rw [zX,Array.length_toList] at hi
   have hl:i < t.place.size:=by omega
   have q:=b2 i hl (by omega)
   rw [Array.getElem_toList] at e
   rw [e] at q
   rcases zH.mp hz with z1 | z1
   ·rw [z1];exact q
   ·obtain ⟨k,hk,ek⟩:=yl z1
    rw [List.getElem_drop] at ek
    have hl':p + k < t.place.size:=by rw [yo,Array.length_toList] at hk;omega
    have q2:=b3 (p + k) hl' (by omega)
    rw [Array.getElem_toList] at ek
    rw [ek] at q2
    omega
 ·have hj':j'∈(SetTable.insertAt t.place p j).toList:=hj'
  rcases (mem j').mp hj' with z | z
  ·rw [z,<- hj];exact at_le N
  ·exact T.small j' z
 ·show ∃ n,(SetTable.insertAt t.place p j)[i]?=some (at' t.mask (SetTable.insertAt es p (h,x))[i].1 n)/\∀ n',n' < n->at' t.mask (SetTable.insertAt es p (h,x))[i].1 n'∈(SetTable.insertAt t.place p j).toList
  have ge:(SetTable.insertAt es p (h,x))[i]?=some (SetTable.insertAt es p (h,x))[i]:=Array.getElem?_eq_getElem hi
  generalize (SetTable.insertAt es p (h,x))[i]=e at ge ⊢
  rw [<-Array.getElem?_toList,le,insert_get p2] at ge
  rw [<-Array.getElem?_toList,lp,insert_get p1,<- lp]
  have old:∀ k,es.toList[k]?=some e->∃ n,t.place.toList[k]?=some (at' t.mask e.1 n)/\∀ n',n' < n->at' t.mask e.1 n'∈(SetTable.insertAt t.place p j).toList:=λk hk=>by
   rw [Array.getElem?_toList] at hk
   obtain ⟨hk',ek⟩:=Array.getElem?_eq_some_iff.mp hk
   obtain ⟨n,a1,a2⟩:=T.way k hk'
   rw [ek] at a1 a2
   exact ⟨n,by rw [Array.getElem?_toList];exact a1,λn' hn=>(mem _).mpr (.inr (a2 n' hn))⟩
  by_cases c:i < p
  ·rw [if_pos c] at ge ⊢;exact old i ge
  ·rw [if_neg c] at ge ⊢
   by_cases d:i=p
   ·rw [if_pos d] at ge ⊢
    cases ge
    exact ⟨N,by rw [hj],λn' hn=>(mem _).mpr (.inr (hall n' hn))⟩
   ·rw [if_neg d] at ge ⊢;exact old (i - 1) ge
def occ (ow:Array (Option Nat)) (j:Nat):Prop:=(ow.getD j (some 0)).isNone=false
theorem free_spec {m:Nat}{ow:Array (Option Nat)}:∀ (fuel i u:Nat),(∃ r,r < fuel/\¬ occ ow (runs m r i u).1) ->
  ∃ n,SetTable.layClean.free m ow fuel i u=some (ad m n (run m i u)).j/\¬ occ ow (ad m n (run m i u)).j/\∀ n',n' < n->occ ow (ad m n' (run m i u)).j
 | 0,i,u,⟨r,h,_⟩=>absurd h (yI _)
 | fuel + 1,i,u,⟨r,h,no⟩=>by
  unfold SetTable.layClean.free
  cases e:(List.range (SetTable.runEnd m i + 1 - i)).find? λk=>(ow.getD (i + k) (some 0)).isNone with
  | some k=>
   dsimp only
   obtain ⟨hk,hlt,before⟩:=List.find?_range_eq_some.mp e
   have hlt:k < SetTable.runEnd m i + 1 - i:=zl.mp hlt
   have inr:∀ k',k'<=k->(ad m k' (run m i u)).j=i + k':=λk' hk'=>by rw [ad_in_run k' (by omega)]
   refine ⟨k,by rw [inr k (zD _)],?_,λn' hn=>?_⟩
   ·rw [inr k (zD _)]
    unfold occ
    rw [hk];simp
   ·rw [inr n' (by omega)]
    unfold occ
    have:=before n' hn
    simpa using this
  | none=>
   dsimp only
   have all:∀ k,k < SetTable.runEnd m i + 1 - i->occ ow (i + k):=λk hk=>by
    have:=List.find?_eq_none.mp e k (zl.mpr hk)
    unfold occ
    cases q:(ow.getD (i + k) (some 0)).isNone with
    | false=>rfl
    | true=>exact absurd q this
   have r0:r≠0:=λz=>by
    subst z
    refine no ?_
    exact all 0 (by have:=(runEnd_le (m:=m) (i:=i)).2.1;omega)
   obtain ⟨r',rfl⟩:=Nat.exists_eq_succ_of_ne_zero r0
   obtain ⟨n,a1,a2,a3⟩:=free_spec fuel ((i * 5 + 1 + u / 32) % (m + 1)) (u / 32) ⟨r',by omega,no⟩
   have next:∀ n',ad m (SetTable.runEnd m i - i + 1 + n') (run m i u)=ad m n' (run m ((i * 5 + 1 + u / 32) % (m + 1)) (u / 32)):=λn'=>by rw [ad_add,ad_next_run]
   refine ⟨SetTable.runEnd m i - i + 1 + n,?_,?_,λn' hn=>?_⟩
   ·rw [next];exact a1
   ·rw [next];exact a2
   ·by_cases c:n' < SetTable.runEnd m i - i + 1
    ·rw [ad_in_run n' (by omega)]
     exact all n' (by have:=(runEnd_le (m:=m) (i:=i)).2.1;omega)
    ·rw [show n'=SetTable.runEnd m i - i + 1 + (n' - (SetTable.runEnd m i - i + 1)) from by omega,next]
     exact a3 _ (by omega)
structure Lay (m:Nat) (hs:List Int) (ow:Array (Option Nat)):Prop where
 sz:ow.size=m + 1
 each:∀ (k:Nat) (h:Int),hs[k]?=some h->∃ n,ow[at' m h n]?=some (some k)/\∀ n',n' < n->occ ow (at' m h n')
 low:∀ (j k:Nat),ow[j]?=some (some k)->k < hs.length
 one:∀ (j j' k:Nat),ow[j]?=some (some k)->ow[j']?=some (some k)->j=j'
theorem occ_iff {ow:Array (Option Nat)}{j:Nat} (h:j < ow.size):occ ow j↔∃ k,ow[j]?=some (some k):=by
 unfold occ
 rw [show ow.getD j (some 0)=ow[j] from by simp [Array.getD,h],Array.getElem?_eq_getElem h]
 cases ow[j] <;> simp
theorem Lay.left {m:Nat}{hs:List Int}{ow:Array (Option Nat)} (L:Lay m hs ow) (few:hs.length<=m):∃ j,j<=m/\¬ occ ow j:=by
 refine Classical.byContradiction λc=>?_
 have all:∀ j,j < m + 1->∃ k,ow[j]?=some (some k):=λj hj=>(occ_iff (by rw [L.sz];exact hj)).mp (Classical.byContradiction λz=>c ⟨j,by omega,z⟩)
 have pick:∀ k,∃ j,k < hs.length->ow[j]?=some (some k):=λk=>by
  by_cases hk:k < hs.length
  ·obtain ⟨n,a,_⟩:=L.each k hs[k] (zL hk)
   exact ⟨_,λ_=>a⟩
  ·exact ⟨0,λz=>absurd z hk⟩
 have:=as_long (m + 1) ((List.range hs.length).map λk=>(pick k).choose) λj hj=>by
  obtain ⟨k,hk⟩:=all j hj
  have kl:=L.low j k hk
  exact zQ.mpr ⟨k,zl.mpr kl,L.one _ _ _ ((pick k).choose_spec kl) hk⟩
 rw [zA,yD] at this
 omega
theorem Lay.step {m:Nat}{hs:List Int}{ow:Array (Option Nat)} (hm:Mask m) (L:Lay m hs ow) (few:hs.length<=m) (h:Int) :
  ∃ j,SetTable.layClean.free m ow (SetTable.turns m) (SetTable.bits h % (m + 1)) (SetTable.bits h)=some j/\Lay m (hs++[h]) (ow.setIfInBounds j (some hs.length)):=by
 obtain ⟨j0,hj0,no⟩:=L.left few
 obtain ⟨r,hr,e⟩:=reach (u:=SetTable.bits h) hm (yT.mp (Nat.mod_lt (SetTable.bits h) (show 0 < m + 1 by omega))) (bits_lt h) hj0
 obtain ⟨n,a1,a2,a3⟩:=free_spec (m:=m) (ow:=ow) (SetTable.turns m) (SetTable.bits h % (m + 1)) (SetTable.bits h) ⟨r,by unfold SetTable.turns;omega,by rw [e];exact no⟩
 have ej:(ad m n (run m (SetTable.bits h % (m + 1)) (SetTable.bits h))).j=at' m h n:=rfl
 rw [ej] at a1 a2
 have a3:∀ n',n' < n->occ ow (at' m h n'):=a3
 have jl:at' m h n < ow.size:=by rw [L.sz];exact yT.mpr (at_le n)
 have get:∀ j,(ow.setIfInBounds (at' m h n) (some hs.length))[j]?=if at' m h n=j then some (some hs.length) else ow[j]?:=λj=>by
  rw [Array.getElem?_setIfInBounds]
  by_cases c:at' m h n=j
  ·rw [if_pos c,if_pos c,if_pos jl]
  ·rw [if_neg c,if_neg c]
 have keep:∀ j,occ ow j->j < ow.size->occ (ow.setIfInBounds (at' m h n) (some hs.length)) j:=λj oj hj=>by
  rw [occ_iff (by rw [Array.size_setIfInBounds];exact hj),get]
  by_cases c:at' m h n=j
  ·exact ⟨_,by rw [if_pos c]⟩
  ·rw [if_neg c];exact (occ_iff hj).mp oj
 have free:∀ k,ow[at' m h n]?≠some (some k):=λk z=>a2 ((occ_iff jl).mpr ⟨k,z⟩)
 refine ⟨_,a1,by rw [Array.size_setIfInBounds];exact L.sz,λk x hx=>?_,λj k hj=>?_,λj j' k h1 h2=>?_⟩
 ·by_cases c:k < hs.length
  ·rw [zV c] at hx
   obtain ⟨n2,b1,b2⟩:=L.each k x hx
   refine ⟨n2,?_,λn' hn=>keep _ (b2 n' hn) (by rw [L.sz];exact yT.mpr (at_le n'))⟩
   rw [get,if_neg λz=>free k (by rw [z];exact b1)]
   exact b1
  ·rw [zY (by omega)] at hx
   have:k - hs.length=0:=by
    have:=(zB.mp hx).1
    simp at this;omega
   rw [this] at hx
   cases hx
   have:k=hs.length:=by omega
   subst this
   exact ⟨n,by rw [get,if_pos rfl],λn' hn=>keep _ (a3 n' hn) (by rw [L.sz];exact yT.mpr (at_le n'))⟩
 ·rw [get] at hj
  rw [zE,z6]
  split at hj
  ·cases hj;omega
  ·have:=L.low j k hj;omega
 ·rw [get] at h1 h2
  split at h1 <;> split at h2
  ·rename_i x y;rw [<-x,<- y]
  ·cases h1;have:=L.low _ _ h2;omega
  ·cases h2;have:=L.low _ _ h1;omega
  ·exact L.one _ _ _ h1 h2
theorem lay_fold {m:Nat} (hm:Mask m):∀ (l hs:List Int) (ow:Array (Option Nat)),Lay m hs ow->hs.length + l.length<=m + 1 ->
  ∃ ow',l.foldl (λ(acc:Option (Array (Option Nat)×Nat)) h=>do
   let (owner,k) <- acc
   let j <- SetTable.layClean.free m owner (SetTable.turns m) (SetTable.bits h % (m + 1)) (SetTable.bits h)
   pure (owner.setIfInBounds j (some k),k + 1)) (some (ow,hs.length))=some (ow',hs.length + l.length)/\Lay m (hs++l) ow'
 | [],hs,ow,L,_=>⟨ow,rfl,by rw [zn];exact L⟩
 | h::l,hs,ow,L,few=>by
  obtain ⟨j,e,L'⟩:=L.step hm (by rw [zW] at few;omega) h
  have few':(hs++[h]).length + l.length<=m + 1:=by rw [zE,z6];rw [zW] at few;omega
  obtain ⟨ow',e2,L2⟩:=lay_fold hm l (hs++[h]) _ L' few'
  refine ⟨ow',?_,by rw [xC] at L2;exact L2⟩
  rw [List.foldl_cons]
  show l.foldl _ ((SetTable.layClean.free m ow (SetTable.turns m) (SetTable.bits h % (m + 1)) (SetTable.bits h)).bind λj=>some (ow.setIfInBounds j (some hs.length),hs.length + 1))=_
  rw [e]
  rw [zE,z6] at e2
  rw [zW]
  rw [show hs.length + (l.length + 1)=hs.length + 1 + l.length from by omega]
  exact e2
theorem lay_clean {m:Nat} (hm:Mask m) {hashes:Array Int} (few:hashes.size<=m + 1):∃ ow,SetTable.layClean m hashes=some ow/\Lay m hashes.toList ow:=by
 have L0:Lay m [] (Array.replicate (m + 1) none):=⟨by simp,λk h e=>(by cases e),(λj k e=>by rw [Array.getElem?_replicate] at e;split at e <;> cases e),(λj j' k e=>by rw [Array.getElem?_replicate] at e;split at e <;> cases e)⟩
 obtain ⟨ow,e,L⟩:=lay_fold hm hashes.toList [] _ L0 (by rw [yH,Array.length_toList];omega)
 refine ⟨ow,?_,by simpa using L⟩
 unfold SetTable.layClean
 rw [<-Array.foldl_toList]
 have:=congrArg (Option.map (·.1)) e
 exact this
theorem perm_of {l l':List Nat} (h:l.Nodup) (h':l'.Nodup) (e:∀ x,x∈l↔x∈l'):l.Perm l':=by
 rw [List.perm_iff_count]
 intro a
 rw [h.count,h'.count]
 by_cases c:a∈l
 ·rw [if_pos c,if_pos ((e a).mp c)]
 ·rw [if_neg c,if_neg λz=>c ((e a).mpr z)]
theorem fm_some {α β:Type}{f:α->Option β}{g:α->β}:∀ {l:List α},(∀ x∈l,f x=some (g x))->l.filterMap f=l.map g
 | [],_=>rfl
 | x::l,h=>by
  rw [List.filterMap_cons_some (h x z4),zm,fm_some λy hy=>h y (zf _ hy)]
theorem fm_pair {f:Nat->Option Nat}:∀ (l:List Nat),(l.filterMap λj=>(f j).map (j,·)).map (·.1)=l.filter λj=>(f j).isSome
 | []=>rfl
 | x::l=>by
  cases e:f x with
  | none=>rw [List.filterMap_cons_none (by rw [e];rfl),List.filter_cons_of_neg (by rw [e];simp),fm_pair l]
  | some k=>rw [List.filterMap_cons_some (b:=(x,k)) (by rw [e];rfl),List.filter_cons_of_pos (by rw [e];rfl),zm,fm_pair l]
theorem relaid_spec {t:SetTable}{es:Array (Int×Value)}{wanted m:Nat} (hw:SetTable.sizeAbove wanted - 1=m) (hm:Mask m) (light:es.size * 5 < m * 3) :
  ∃ t' order,t.relaid (es.map (·.1)) wanted=some (t',order)/\(order.filterMap (es[·]?)).toList.Perm es.toList/\Tab t' (order.filterMap (es[·]?)):=by
 obtain ⟨ow,e,L⟩:=lay_clean (hashes:=es.map (·.1)) hm (by rw [Array.size_map];omega)
 have lh:(es.map (·.1)).toList.length=es.size:=by rw [Array.length_toList,Array.size_map]
 have hh:∀ (k:Nat) (x:Int×Value),es[k]?=some x->(es.map (·.1)).toList[k]?=some x.1:=λk x hx=>by rw [Array.getElem?_toList,Array.getElem?_map,hx];rfl
 let lv:=(List.range (m + 1)).filterMap λj=>(ow.getD j none).map (j,·)
 have e2:t.relaid (es.map (·.1)) wanted=some ({ mask:=m,place:=(lv.map (·.1)).toArray,dummies:=#[],finger:=t.finger,led:=t.led,moves:=t.movedTo m,plain:=t.plain },(lv.map (·.2)).toArray):=by
  unfold SetTable.relaid SetTable.laid
  rw [hw,e]
  rfl
 have f1:lv.map (·.1)=(List.range (m + 1)).filter λj=>(ow.getD j none).isSome:=fm_pair _
 have f2:∀ p∈lv,ow[p.1]?=some (some p.2)/\p.1<=m:=λp hp=>by
  obtain ⟨j,hj,q⟩:=yh.mp hp
  have hj:j < m + 1:=zl.mp hj
  have hs:j < ow.size:=by rw [L.sz];exact hj
  rw [show ow.getD j none=ow[j] from by simp [Array.getD,hs]] at q
  cases eo:ow[j] with
  | none=>rw [eo] at q;cases q
  | some k=>rw [eo] at q;cases q;exact ⟨by rw [Array.getElem?_eq_getElem hs,eo],by show j<=m;omega⟩
 have f3:∀ j k,ow[j]?=some (some k)->(j,k)∈lv:=λj k h=>by
  obtain ⟨hs,eo⟩:=Array.getElem?_eq_some_iff.mp h
  refine yh.mpr ⟨j,zl.mpr (by rw [L.sz] at hs;exact hs),?_⟩
  rw [show ow.getD j none=ow[j] from by simp [Array.getD,hs],eo];rfl
 have so1:(lv.map (·.1)).Pairwise (· < ·):=by rw [f1];exact List.pairwise_lt_range.filter _
 have so2:lv.Pairwise λa b=>a.1 < b.1:=yL.mp so1
 have nd:(lv.map (·.2)).Nodup:=by
  refine yL.mpr (so2.imp_of_mem λ{a b} ha hb h z=>?_)
  have:=L.one _ _ _ (f2 a ha).1 (by rw [z];exact (f2 b hb).1)
  omega
 have kl:∀ p∈lv,p.2 < es.size:=λp hp=>by have:=L.low _ _ (f2 p hp).1;rw [lh] at this;exact this
 have pm:(lv.map (·.2)).Perm (List.range es.size):=perm_of nd List.nodup_range λk=>by
  constructor
  ·intro h
   obtain ⟨p,hp,rfl⟩:=zQ.mp h
   exact zl.mpr (kl p hp)
  ·intro h
   have hk:k < es.size:=zl.mp h
   obtain ⟨n,a,_⟩:=L.each k es[k].1 (hh k _ (Array.getElem?_eq_getElem hk))
   exact zQ.mpr ⟨_,f3 _ _ a,rfl⟩
 let g:Nat->Int×Value:=λk=>(es[k]?).getD (0,Value.none)
 have gk:∀ k,k < es.size->es[k]?=some (g k):=λk hk=>by show es[k]?=some ((es[k]?).getD _);rw [Array.getElem?_eq_getElem hk];rfl
 have e3:((lv.map (·.2)).toArray.filterMap (es[·]?)).toList=lv.map λp=>g p.2:=by
  rw [Array.toList_filterMap,List.filterMap_map]
  exact fm_some λp hp=>gk p.2 (kl p hp)
 have e4:es.toList=(List.range es.size).map g:=by
  have:=filterMap_getElem?_range es
  rw [fm_some (g:=g) λk hk=>gk k (zl.mp hk)] at this
  exact this.symm
 refine ⟨_,_,e2,?_,?_⟩
 ·rw [e3,e4,show (λp:Nat×Nat=>g p.2)=g ∘ (·.2) from rfl,<- yA]
  exact pm.map g
 ·have sz:((lv.map (·.2)).toArray.filterMap (es[·]?)).size=lv.length:=by rw [<-Array.length_toList,e3,zA]
  have ll:lv.length=es.size:=by have:=pm.length_eq;rw [zA,yD] at this;exact this
  refine ⟨hm,rfl,by simpa using so1,by rw [sz];simp,λj hj=>?_,by rw [sz,ll];exact light,λi hi=>?_⟩
  ·have hj:j∈lv.map (·.1):=by simpa using hj
   obtain ⟨p,hp,rfl⟩:=zQ.mp hj
   exact (f2 p hp).2
  ·have ge:((lv.map (·.2)).toArray.filterMap (es[·]?))[i]?=some ((lv.map (·.2)).toArray.filterMap (es[·]?))[i]:=Array.getElem?_eq_getElem hi
   generalize ((lv.map (·.2)).toArray.filterMap (es[·]?))[i]=x at ge ⊢
   rw [<-Array.getElem?_toList,e3,zS] at ge
   cases ep:lv[i]? with
   | none=>rw [ep] at ge;cases ge
   | some p=>
    rw [ep] at ge
    have ge:g p.2=x:=Option.some.inj ge
    have hp:=zC ep
    have hx:=gk p.2 (kl p hp)
    rw [ge] at hx
    obtain ⟨n,a1,a2⟩:=L.each p.2 x.1 (hh p.2 x hx)
    have ej:=L.one _ _ _ a1 (f2 p hp).1
    refine ⟨n,?_,λn' hn=>?_⟩
    ·show ((lv.map (·.1)).toArray)[i]?=some (at' m x.1 n)
     rw [List.getElem?_toArray,zS,ep,ej];rfl
    ·show at' m x.1 n'∈((lv.map (·.1)).toArray).toList
     obtain ⟨k,hk⟩:=(occ_iff (by rw [L.sz];exact yT.mpr (at_le n'))).mp (a2 n' hn)
     simpa using ⟨k,f3 _ _ hk⟩
end SmSet
namespace SmSet
open PySem
section
variable {prog:Program}{w:World}{K:Type} [DecidableEq K] {knd:HeapKind prog w K}{A:Around}{E:Value->Shared->Prop}{s:Shared}{a:Addr}
def Hashy (knd:HeapKind prog w K):Prop:=∀ (A:Around) (s:Shared) (k:K) (b:Addr),knd.is s.heap k b->∀ (E:Value->Shared->Prop) (Q:Bool->Shared->Prop),(∀ v,Q v s)->wpAny (model prog w) A (hashByValue 8 (.ref b)) Q E s
def SetObj (es:Array (Int×Value)) (ep:Nat) (t:SetTable):Obj:={ cls:=.type "set", data:=.set es ep t }
theorem store {es es':Array (Int×Value)}{ep:Nat}{t t':SetTable}{Q:Unit->Shared->Prop} (ho:s.heap.get? a=some (SetObj es ep t)) (hz:es'.size<=sizeLine)
  (h:∀ h',Heap.SameBut a s.heap h'->h'.get? a=some (SetObj es' (ep + 1) t')->Q () { s with heap:=h' }):wpAny (model prog w) A (storeSet a es' t') Q E s:=by
 refine wpAny_storeSet_of ho rfl (h _ (Heap.SameBut.update s.heap a (Obj.putSet es' t')) ?_) hz
 have:=Heap.get?_update_self (Obj.putSet es' t') ho (by rw [putSet_of es' t' rfl];rfl)
 rw [putSet_of es' t' rfl] at this;exact this
theorem grown_mask {n m:Nat} (hm:Mask m) (lt:(n - 1) * 5 < m * 3) (n1:1<=n) (full:n * 5 ≥ m * 3) (few:n<=4000):Mask (SetTable.sizeAbove (SetTable.grown n) - 1)/\n * 5 < (SetTable.sizeAbove (SetTable.grown n) - 1) * 3/\SetTable.sizeAbove (SetTable.grown n)<=8192:=by
 rcases hm with rfl | rfl | rfl | rfl | rfl | rfl
 ·have:n=5:=by omega
  subst this
  exact ⟨.inr (.inl (by decide +kernel)),by decide +kernel,by decide +kernel⟩
 ·have:n=19:=by omega
  subst this
  exact ⟨.inr (.inr (.inl (by decide +kernel))),by decide +kernel,by decide +kernel⟩
 ·have:n=77:=by omega
  subst this
  exact ⟨.inr (.inr (.inr (.inl (by decide +kernel)))),by decide +kernel,by decide +kernel⟩
 ·have:n=307:=by omega
  subst this
  exact ⟨.inr (.inr (.inr (.inr (.inl (by decide +kernel))))),by decide +kernel,by decide +kernel⟩
 ·have:n=1229:=by omega
  subst this
  exact ⟨.inr (.inr (.inr (.inr (.inr (by decide +kernel))))),by decide +kernel,by decide +kernel⟩
 ·omega
theorem add {es:Array (Int×Value)}{ep:Nat}{t:SetTable}{ks:Nat->K}{kx:K}{c:Addr}{Q:Bool->Shared->Prop} (hr:knd.room A) (S:SetT knd s.heap a es ep t ks) (hx:knd.is s.heap kx c) (cl:Calm knd A s) (hb:Hashy knd) (few:es.size < 4000)
  (qt:(∃ i,i < es.size/\ks i=kx)->Q false s)
  (qf:∀ (h':Heap) (es':Array (Int×Value)) (ep':Nat) (t':SetTable),(∀ i,i < es.size->ks i≠kx)->Heap.SameBut a s.heap h'->h'.get? a=some (SetObj es' ep' t')->Tab t' es'->es'.toList.Perm (es.toList++[(knd.hash kx,.ref c)])->Q true { s with heap:=h' }) :
  wpAny (model prog w) A (setAddHashed a (.ref c) (knd.hash kx)) Q E s:=by
 obtain ⟨N,n1,n2,n3⟩:=S.tab.first (knd.hash kx)
 have line:10000<=sizeLine:=by rw [sizeLine_eq];decide
 unfold setAddHashed setAddHashedIn
 refine wpAny_holding (wpAny_bind (wpAny_setState_of S.obj rfl S.tab.fits ?_))
 dsimp only
 rw [show byScan (.ref c) es=false from rfl]
 simp only [zb,if_false]
 refine wpAny_bind ?_
 unfold setSearch
 have lim:10 * (t.mask + 13) < 100000:=by
  rcases S.tab.mask with h | h | h | h | h | h <;> rw [h] <;> decide
 refine search hr S.obj rfl S.tab S.keys hx cl (λr h f=>?_) n2 n3 n1 (λnf=>?_) 100000 0 none (by omega) (zc _) rfl (λn' h=>absurd h (yI _))
 ·exact wpAny_pure (qt f)
 ·dsimp only
  refine wpAny_bind (wpAny_setState_of S.obj rfl S.tab.fits ?_)
  dsimp only
  have m7:7<=t.mask:=by rcases S.tab.mask with h | h | h | h | h | h <;> omega
  have lt:=S.tab.light
  have e200:SetTable.tooFull=λt=>decide (t.fill * 5 ≥ t.mask * 3):=rfl
  have tail:∀ tt,(∃ pl,tt={ (t.put (at' t.mask (knd.hash kx) N)).1 with plain:=pl })->wpAny (model prog w) A (do
    storeSet a (SetTable.insertAt es (t.put (at' t.mask (knd.hash kx) N)).2 (knd.hash kx,Value.ref c)) tt
    if (!false && tt.tooFull)=true then do
     setRelay a (SetTable.grown (es.size + 1))
     pure true
    else pure true) Q E s:=by
   rintro tt ⟨pl,rfl⟩
   obtain ⟨pt,pd,pm,ps⟩:=S.tab.put (x:=Value.ref c) n2 n3 pl
   have pp:=SetTable.insertAt_perm es (t.put (at' t.mask (knd.hash kx) N)).2 (knd.hash kx,Value.ref c)
   rw [Array.toList_push] at pp
   have sz:(SetTable.insertAt es (t.put (at' t.mask (knd.hash kx) N)).2 (knd.hash kx,Value.ref c)).size=es.size + 1:=by
    have:=pp.length_eq
    rw [Array.length_toList,zE,Array.length_toList,z6] at this;exact this
   generalize (t.put (at' t.mask (knd.hash kx) N)).1=T1 at pt pd pm ps ⊢
   generalize SetTable.insertAt es (t.put (at' t.mask (knd.hash kx) N)).2 (knd.hash kx,Value.ref c)=es1 at pt pp sz ⊢
   have fit:({ T1 with plain:=pl }:SetTable).fits es1.size=true:=by
    unfold SetTable.fits SetTable.fill
    dsimp only
    rw [ps,pd,sz,pm]
    simp
    omega
   refine wpAny_bind (store S.obj (by omega) λh' sb go=>?_)
   have full:({ T1 with plain:=pl }:SetTable).tooFull=decide ((es.size + 1) * 5 ≥ t.mask * 3):=by
    unfold SetTable.tooFull SetTable.fill
    dsimp only
    rw [ps,pd,pm];rfl
   rw [full]
   by_cases c:(es.size + 1) * 5 ≥ t.mask * 3
   ·rw [decide_eq_true c]
    simp only [Bool.not_false,Bool.and_self,if_true]
    obtain ⟨gm,gl,gz⟩:=grown_mask S.tab.mask (by rw [Nat.add_sub_cancel];exact lt) (by omega) c (by omega)
    obtain ⟨t2,order,er,pr,T2⟩:=relaid_spec (t:={ T1 with plain:=pl }) (es:=es1) rfl gm (by rw [sz];exact gl)
    refine wpAny_bind ?_
    unfold setRelay
    refine wpAny_bind (wpAny_setState_of (s:={ s with heap:=h' }) go rfl fit ?_)
    dsimp only
    rw [if_neg (by omega)]
    refine wpAny_bind ?_
    rw [er]
    show wpAny (model prog w) A (if ((order.filterMap (es1[·]?)).size != es1.size)=true then _ else _) _ _ _
    have s2:(order.filterMap (es1[·]?)).size=es1.size:=by have:=pr.length_eq;rw [Array.length_toList,Array.length_toList] at this;exact this
    rw [if_neg (by rw [s2];simp)]
    refine wpAny_pure ?_
    dsimp only
    refine store (s:={ s with heap:=h' }) go (by rw [s2];omega) λh2 sb2 go2=>?_
    exact wpAny_pure (qf h2 _ _ _ nf (sb.trans sb2) go2 T2 (pr.trans pp))
   ·rw [decide_eq_false c]
    simp only [Bool.not_false,xD,zb,if_false]
    exact wpAny_pure (qf h' _ _ _ nf sb go (pt (by omega)) pp)
  split
  ·refine wpAny_bind (hb _ _ _ _ hx _ _ λv=>tail _ ?_)
   cases v with
   | true=>exact ⟨(t.put (at' t.mask (knd.hash kx) N)).1.plain,rfl⟩
   | false=>exact ⟨false,rfl⟩
  ·refine wpAny_bind (wpAny_pure (tail _ ⟨(t.put (at' t.mask (knd.hash kx) N)).1.plain,rfl⟩))
end
end SmSet
namespace SmSet
open PySem
section
variable {prog:Program}{w:World}{K:Type} [DecidableEq K] {knd:HeapKind prog w K}{A:Around}{E:Value->Shared->Prop}{s:Shared}{a:Addr}
theorem callAdd {es:Array (Int×Value)}{ep:Nat}{t:SetTable}{ks:Nat->K}{kx:K}{c:Addr}{Q:Value->Shared->Prop} (hr:knd.room A.in1) (S:SetT knd s.heap a es ep t ks) (hx:knd.is s.heap kx c) (cl:∀ B (s':Shared),s'.heap=s.heap->Calm knd B s') (hb:Hashy knd) (few:es.size < 4000)
  (qt:(∃ i,i < es.size/\ks i=kx)->Q .none { s with toks:=s.toks + knd.draws kx })
  (qf:∀ (h':Heap) (es':Array (Int×Value)) (ep':Nat) (t':SetTable),(∀ i,i < es.size->ks i≠kx)->Heap.SameBut a s.heap h'->h'.get? a=some (SetObj es' ep' t')->Tab t' es'->es'.toList.Perm (es.toList++[(knd.hash kx,.ref c)])->Q .none { s with heap:=h',toks:=s.toks + knd.draws kx }) :
  wpAny (model prog w) A (call (.builtin "set.add") [.ref a,.ref c]) Q E s:=by
 refine wpAny_call_entry F.slot_set_add (set_typeIs S) F.entry_set_add ?_ (F.args_set_add_2 _ _)
 unfold Builtin.«set.add» Builtin.Frozenset.oneOther
 simp only [List.isEmpty_nil,bind_assoc]
 unfold Builtin.Frozenset.addrOf setAdd
 refine wpAny_bind (wpAny_pure ?_)
 try dsimp only
 refine wpAny_bind (wpAny_pure ?_)
 try dsimp only
 refine wpAny_bind ?_
 refine wpAny_holding ?_
 refine wpAny_bind (knd.pyHash hr hx ?_)
 refine add (s:={ s with toks:=s.toks + knd.draws kx }) hr ⟨S.obj,S.tab,S.keys⟩ hx (cl _ _ rfl) hb few (λf=>?_) (λh' es' ep' t' nf sb go T' pm=>?_)
 ·show wpAny _ _ (ret Value.none) _ _ _
  exact wpAny_pure ⟨_,rfl,qt f⟩
 ·show wpAny _ _ (ret Value.none) _ _ _
  exact wpAny_pure ⟨_,rfl,qf h' es' ep' t' nf sb go T' pm⟩
end
section
variable {prog:Program}{w:World}{K:Type} [DecidableEq K] {knd:KeyKind prog w K}
theorem plain_stm {v:Value} (h:carriedByValue v=true) (n:Nat):ofAClassStatement n v=pure false:=by
 cases v with
 | ref a=>cases h
 | _=>cases n <;> rfl
theorem tup_calm {A:Around}{s:Shared}:Calm (tupleKind knd) A s:=by
 intro k b hk E Q q
 have hT:s.TypeIs (.ref b) "tuple" := IsTupleKey.typeIs hk
 obtain ⟨o,items,n,ho,hc,hd,hi⟩:=hk
 unfold ofAClassStatement
 refine wpAny_bind (wpAny_typeOf hT ?_)
 dsimp only
 rw [if_pos (by decide)]
 refine wpAny_bind (wpAny_pure ?_)
 simp only [Bool.not_true,zb,if_false]
 refine wpAny_bind (wpAny_seqItems ho hd ?_)
 dsimp only
 refine wpAny_bind ?_
 rw [<-Array.forIn_toList]
 refine wpAny_forIn_list _ (λrest r s'=>r.1=none/\s'=s/\∀ v∈rest,carriedByValue v=true) _ ?_ ?_ _ _ ⟨rfl,rfl,hi.byValue⟩
 ·rintro v rest r s' ⟨hr,rfl,hall⟩
  rw [plain_stm (hall v z4)]
  refine wpAny_bind (wpAny_pure ?_)
  simp only [zb,if_false]
  exact wpAny_pure ⟨rfl,rfl,λu hu=>hall u (zf _ hu)⟩
 ·rintro ⟨r1,r2⟩ s' ⟨hr,rfl,_⟩
  simp only at hr
  subst hr
  exact wpAny_pure q
theorem plain_hash {v:Value} (h:carriedByValue v=true) (n:Nat):∃ c,hashByValue n v=pure c:=by
 cases v with
 | ref a=>cases h
 | _=>cases n <;> exact ⟨_,rfl⟩
theorem tup_hashy:Hashy (tupleKind knd):=by
 intro A s k b hk E Q q
 have hT:s.TypeIs (.ref b) "tuple" := IsTupleKey.typeIs hk
 obtain ⟨o,items,n,ho,hc,hd,hi⟩:=hk
 unfold hashByValue
 refine wpAny_bind (wpAny_specialOf hT F.slot_tuple_hash.lookup ?_)
 dsimp only
 refine wpAny_bind (wpAny_seqItems ho hd ?_)
 dsimp only [Option.getD]
 refine wpAny_bind ?_
 rw [<-Array.forIn_toList]
 refine wpAny_forIn_list _ (λrest r s'=>r.1=none/\s'=s/\∀ v∈rest,carriedByValue v=true) _ ?_ ?_ _ _ ⟨rfl,rfl,hi.byValue⟩
 ·rintro v rest r s' ⟨hr,rfl,hall⟩
  obtain ⟨c,hc'⟩:=plain_hash (hall v z4) 7
  rw [hc']
  refine wpAny_bind (wpAny_pure ?_)
  cases c with
  | true=>
   simp only [Bool.not_true,zb,if_false]
   exact wpAny_pure ⟨rfl,rfl,λu hu=>hall u (zf _ hu)⟩
  | false=>
   simp only [Bool.not_false,if_true]
   exact wpAny_pure (wpAny_pure (q _))
 ·rintro ⟨r1,r2⟩ s' ⟨hr,rfl,_⟩
  simp only at hr
  subst hr
  exact wpAny_pure (q _)
end
end SmSet
namespace L2
open PySem PySem.Spec PyProof.Rows SmSet
def setO (P:Program) (w:World) (a:Addr) (xs:List (Addr×List Int)):HO:=.ext λh=>∃ es ep t,h.get? a=some (SetObj es ep t)/\Tab t es/\es.toList.Perm (xs.map λx=>(tupleKeyHash (mixKind P w) (x.2.map Sum.inl),Value.ref x.1))
section
variable {X:Cx}{pins:List (Addr×Obj)}{σ:St}{H:Hp}{s:Shared}{a:Addr}
theorem setO_ok {P:Program}{w:World}{H:Hp}{h:Heap}{xs:List (Addr×List Int)}{es:Array (Int×Value)}{ep:Nat}{t:SetTable} (ho:h.get? a=some (SetObj es ep t)) (T:Tab t es) (pm:es.toList.Perm (xs.map λx=>(tupleKeyHash (mixKind P w) (x.2.map Sum.inl),Value.ref x.1))) :
  ObjOk P w H h a (setO P w a xs):=⟨⟨es,ep,t,ho,T,pm⟩,⟨_,ho⟩,λh1 h2 ⟨es,ep,t,ho,T,pm⟩ k=>⟨es,ep,t,k _ ho,T,pm⟩⟩
theorem ints_key (ks:List Int):ks.map V.int=(ks.map Sum.inl).map kV:=by rw [yA];rfl
theorem setO_is (I:Inv X pins σ H s) {xs:List (Addr×List Int)} (h:H a=some (setO X.prog X.w a xs)) (hk:∀ e∈xs,H e.1=some (.tup (e.2.map V.int))) :
  ∃ es ep t ks,SetT (tupleKind (mixKind X.prog X.w)) s.heap a es ep t ks/\es.toList.Perm (xs.map λx=>(tupleKeyHash (mixKind X.prog X.w) (x.2.map Sum.inl),Value.ref x.1)) /\
   (∀ k:List Int,(∃ i,i < es.size/\ks i=k.map Sum.inl)↔k∈xs.map (·.2)):=by
 obtain ⟨⟨es,ep,t,ho,T,pm⟩,_⟩:=I.hok a _ h
 have pick:∀ i,∃ x:Addr×List Int,i < es.size->x∈xs/\es[i]?=some (tupleKeyHash (mixKind X.prog X.w) (x.2.map Sum.inl),Value.ref x.1):=λi=>by
  by_cases hi:i < es.size
  ·have:=pm.mem_iff.mp (show es[i]∈es.toList from by simp)
   obtain ⟨x,hx,e⟩:=zQ.mp this
   exact ⟨x,λ_=>⟨hx,by rw [Array.getElem?_eq_getElem hi,<- e]⟩⟩
  ·exact ⟨(0,[]),λz=>absurd z hi⟩
 refine ⟨es,ep,t,λi=>((pick i).choose).2.map Sum.inl,⟨ho,T,λi hi=>?_⟩,pm,λk=>⟨?_,λhk'=>?_⟩⟩
 ·obtain ⟨h1,h2⟩:=(pick i).choose_spec hi
  exact ⟨_,Option.some.inj ((Array.getElem?_eq_getElem hi).symm.trans h2),key_of I.hok (by rw [hk _ h1,ints_key])⟩
 ·rintro ⟨i,hi,e⟩
  obtain ⟨h1,h2⟩:=(pick i).choose_spec hi
  have:((pick i).choose).2=k:=List.map_inj_right (λx y z=>Sum.inl.inj z) |>.mp e
  exact zQ.mpr ⟨_,h1,this⟩
 ·obtain ⟨x,hx,rfl⟩:=zQ.mp hk'
  have:=pm.mem_iff.mpr (zQ.mpr ⟨x,hx,rfl⟩)
  obtain ⟨i,hi,e⟩:=yl this
  have hi':i < es.size:=by simpa using hi
  refine ⟨i,hi',?_⟩
  obtain ⟨h1,h2⟩:=(pick i).choose_spec hi'
  have e':es[i]?=some (tupleKeyHash (mixKind X.prog X.w) (x.2.map Sum.inl),Value.ref x.1):=by rw [<-Array.getElem?_toList,zL hi,e]
  rw [h2] at e'
  have ea:((pick i).choose).1=x.1:=by injection e' with e';injection e' with _ e';injection e'
  have t1:=hk _ h1
  have t2:=hk _ hx
  rw [ea,t2] at t1
  injection t1 with t1
  injection t1 with t1
  have:x.2=((pick i).choose).2:=List.map_inj_right (λx y z=>V.int.inj z) |>.mp t1
  rw [this]
def rSetNew (P:Program) (w:World):List V->Hp->VK->Prop:=λxs H Q=>xs=[]/\∀ p,H p=none->Q (.ref p) (upd H p (setO P w p []))
theorem call_setNew:CallR X (.type "set") (rSetNew X.prog X.w):=by
 intro pins s σ H xs us Q I r h
 obtain ⟨rfl,q⟩:=h
 cases r
 refine call_set_0 λled=>?_
 refine ⟨.ref s.heap.objs.size,_,I.laid (a:=s.heap.objs.size) (o:=setO X.prog X.w s.heap.objs.size []) (t':=s.toks) (λ_ _ q=>Heap.get?_push_of_some _ q) (zD _) ?_,rfl,q _ (I.hok.fresh (zD _))⟩
 exact setO_ok (Heap.get?_push_size _ rfl) ⟨.inl rfl,rfl,.nil,rfl,(λ_ z=>nomatch z),(by show 0 * 5 < 7 * 3;decide),λi hi=>absurd hi (yI _)⟩ .nil
def rInS (P:Program) (w:World):R2:=λx y H Q=>∃ p xs c,∃ k:List Int,x=.ref c/\y=.ref p/\H p=some (setO P w p xs)/\H c=some (.tup (k.map V.int))/\(∀ e∈xs,H e.1=some (.tup (e.2.map V.int)))/\Q (.bl (decide (k∈xs.map (·.2)))) H
theorem op_inS (hu:X.A.units + 64 < cLine):OpR X (compareOp .In) (rInS X.prog X.w):=by
 intro pins s σ H x y v u Q I rx ry h
 obtain ⟨p,xs,c,k,rfl,rfl,hp,hc,hk,q⟩:=h
 cases rx;cases ry
 obtain ⟨es,ep,t,ks,S,pm,mem⟩:=setO_is I hp hk
 refine inSet (knd:=tupleKind (mixKind X.prog X.w)) (kx:=k.map Sum.inl) (show X.A.units + 1 < cLine by omega) S (key_of I.hok (by rw [hc,ints_key])) (λ_ _ _=>tup_calm) (λf=>?_) (λnf=>?_)
 ·rw [decide_eq_true ((mem k).mp f)] at q
  exact ⟨.bl true,H,I.kept (λ_ _ z=>z),rfl,q⟩
 ·rw [decide_eq_false λz=>by obtain ⟨i,hi,e⟩:=(mem k).mpr z;exact nf i hi e] at q
  exact ⟨.bl false,H,I.kept (λ_ _ z=>z),rfl,q⟩
def rAddS (P:Program) (w:World):V->List V->Hp->VK->Prop:=λx vs H Q=>∃ p xs c,∃ k:List Int,x=.ref p/\vs=[.ref c]/\H p=some (setO P w p xs)/\H c=some (.tup (k.map V.int))/\(∀ e∈xs,H e.1=some (.tup (e.2.map V.int)))/\xs.length < 4000 /\
 (k∈xs.map (·.2)->Q .non H)/\(k ∉ xs.map (·.2)->Q .non (upd H p (setO P w p (xs++[(c,k)]))))
theorem mt_addS (hu:X.A.units + 64 < cLine):MtR X "set.add" (rAddS X.prog X.w):=by
 intro pins s σ H x vs v us Q I rx rv h
 obtain ⟨p,xs,c,k,rfl,rfl,hp,hc,hk,few,q1,q2⟩:=h
 cases rx
 obtain ⟨u,rfl,ru⟩:=rv.one
 cases ru
 obtain ⟨es,ep,t,ks,S,pm,mem⟩:=setO_is I hp hk
 have sz:es.size=xs.length:=by have:=pm.length_eq;rw [Array.length_toList,zA] at this;exact this
 refine callAdd (knd:=tupleKind (mixKind X.prog X.w)) (kx:=k.map Sum.inl) (show X.A.units + 1 < cLine by omega) S (key_of I.hok (by rw [hc,ints_key])) (λ_ _ _=>tup_calm) tup_hashy (by omega) (λf=>?_) (λh' es' ep' t' nf sb go T' pm'=>?_)
 ·exact ⟨.non,H,I.kept (λ_ _ z=>z),rfl,q1 ((mem k).mp f)⟩
 ·refine ⟨.non,_,I.write (x:=p) (e:=p) (by rw [hp];trivial) (.inl rfl) (λb o hb z=>(sb.2 b hb).trans z) ⟨_,go⟩ (setO_ok go T' ?_),rfl,q2 λz=>by obtain ⟨i,hi,e⟩:=(mem k).mpr z;exact nf i hi e⟩
  rw [zK]
  exact pm'.trans (pm.append_right _)
def tBMS (P:Program) (w:World) (r:V->List V->Hp->VK->Prop) (to:TE) (t:TA):TE:=fun σ H Q=>to σ H λx H1=>(∃ p xs,x=.ref p/\H1 p=some (setO P w p xs))/\t σ H1 λxs H2=>r x xs H2 Q
theorem pe_bmS {o e:Expr}{es:List Expr}{to:TE}{t:TA}{name:Str}{apos cpos:Pos}{id:String}{r:V->List V->Hp->VK->Prop} (slot:Slot "set" name id) (hty:typeOf (.builtin id)=pure (.type "method_descriptor")) (hm:MtR X id r) (ho:PE X o to) (ha:PA X (e::es) t)
  (hbase:attributeBase o name X.env (eval o X.env)=eval o X.env:=by rfl)
  (hfew:((backTo cpos (starEach (e::es) X.env)).all (λx=>!x.1) && (backToKw cpos (keywordEach [] X.env)).all (λx=>x.1.isSome)
   && decide ((e::es).length + ([]:List Keyword).length + (if ([]:List Keyword).isEmpty then 0 else 1) < 30))=true:=by rfl)
  (hline:(apos.endLine == cpos.line)=true:=by rfl) (hs:starEach (e::es) X.env=(false,eval e X.env)::starEach es X.env:=by rfl) (hplain:(backTo cpos (starEach es X.env)).any (·.1)=false:=by rfl) :
  PE X (.Call (.Attribute o name apos) (e::es) [] cpos) (tBMS X.prog X.w r to t):=by
 intro pins s σ H Q I h
 refine wpAny_Call_method_late hbase hfew hline rfl (thn (ho pins s σ H _ I h) λv s1 ⟨x,H1,I1,r1,⟨p,xs,ex,hp⟩,q1⟩=>?_)
 subst ex
 cases r1
 obtain ⟨⟨es',ep,tt,hob,_⟩,_⟩:=I1.hok p _ hp
 refine ⟨"set", id,F.plainAttrs_set,slot,hty,⟨_,hob,rfl⟩,λa e=>by cases e;exact ⟨_,hob,rfl⟩,?_⟩
 have hA:=ha cpos pins s1 σ H1 _ I1 q1
 rw [hs] at hA ⊢
 refine Calls.callWith_builtin (by show (false || (backTo cpos (starEach es X.env)).any (·.1))=false;rw [hplain] <;> rfl) (Calls.evalArgs_plain ?_)
 exact thn hA λus s2 ⟨vs,H2,I2,r2,q2⟩=>hm pins s2 σ H2 (.ref p) vs (.ref p) us Q I2 rfl r2 q2
end
end L2
namespace L2
open PySem PySem.Spec PyProof.Rows PySem.W
theorem lam_run {P:Program}{w:World}{K:PySem.W.Frag}{mg:Str->Option Value}{base:Heap}{k:Nat}{f c':Addr}{name qual:Str}{params:Arguments}{body:Expr}{scope:Scope}{pm ctv:Value}{N ps:List Str}
  {A:Around}{outer:List Env}{s:Shared}{H:Hp}{us:List Value}{vs:List V}{Q:VK} (S:FnScope N ps scope) (hr:Room (k + 1) A) (e0:Env0 P w K mg base A outer s H)
  (ho:s.heap.get? f=some (kla_obj name qual params body scope [] pm c' ctv)) (hcd:s.heap.CodeRec (.ref c') qual) (hb:bindArgs (kla_fn name qual params body scope [] pm (.ref c') ctv) ⟨us,[]⟩=pure (ps.zip us)) (hl:vs.length=ps.length) (r:Vals vs us)
  (hbody:∃ t,PE (cxOf CX0 P w K mg base N qual scope f (.ref c') A outer s H E0).nox body t/\t (start N vs) H Q) :
  codeAny (model P w) A (.call (.ref f) ⟨us,[]⟩) (CR CX0 outer P w H s Q E0) s:=by
 have lim:s.heap.NoLimit:=e0.mod.nolimit.keeps λb o e=>(e0.bs b o e).1
 have hkind:∀ y∈ps.zip us,scope.names.lookup y.1=some .local\/(scope.names.lookup y.1=some .cell/\((cellsFrom (s.heap.objs.size + 1) scope.names []).lookup y.1).isSome=true):=λ⟨n,v⟩ hy=>by
  rcases S.par n (List.of_mem_zip hy).1 with q | q
  ·exact .inl q
  ·exact .inr ⟨q,PySem.W.cellsFrom_some _ _ _ (.inl q)⟩
 refine kla_callFunE hr.depth ho rfl S.co S.gen rfl hcd ?_
 rw [hb]
 refine wpAny_pure ?_
 refine wpAny_newFunctionEnv_cells S.kind hkind λenv he s1 x=>?_
 subst he
 refine ⟨lim.keeps x.toInCall.keep,kla_codeExpr ?_⟩
 obtain ⟨t,ht,hq⟩:=hbody
 have I:Inv (cxOf CX0 P w K mg base N qual scope f (.ref c') A outer s H E0) [] (start N vs) H s1:=inv_start S hr.hd e0 hl r x
 refine wpAny_mono (ht.nox [] s1 (start N vs) H _ I hq) (λu s' hs=>?_) λe s' hs=>hs
 obtain ⟨v,H',J,rv,q⟩:=hs
 exact ⟨v,H',J.os,J.bare,J.base,J.hok,rv,q⟩
end L2
namespace L2
open PySem PySem.Spec PyProof.Rows PySem.W
def codeO (c:Addr) (qual:Str):HO:=.ext λh=>h.CodeRec (.ref c) qual
def MT (P:Addr) (pos:Pos) (qual:Str) (H:Hp):Prop:=H P=some (.tbl #[])\/∃ c,H P=some (.tbl #[rawInt pos.line,rawInt pos.col,.ref c])/\H c=some (codeO c qual)
def BmAt (mg:Str->Option Value) (base:Heap):Prop:=∃ bm o,mg "__builtins__" = some (.ref bm)/\bm≠builtinsNs/\bm≠mainGlobals/\base.get? bm=some o/\o.cls=.type "module" /\ o.dict=some builtinsNs/\o.data=.plain
section
variable {X:Cx}{pins:List (Addr×Obj)}{σ:St}{H:Hp}{s:Shared}
theorem Inv.fsLt (I:Inv X pins σ H s):∀ b∈X.fs,b < s.heap.objs.size:=λb hb=>by
 obtain ⟨_,o,ho,_⟩:=I.ok.funs.mem hb
 exact zR (Heap.lt_size ho) I.sz
theorem codeO_ok {P:Program}{w:World}{H:Hp}{h:Heap}{c:Addr}{qual:Str} (r:h.CodeRec (.ref c) qual):ObjOk P w H h c (codeO c qual):=by
 obtain ⟨c2,oc,vs,t,e,ho,hd,hv⟩:=id r
 cases e
 exact ⟨r,⟨_,ho⟩,λh1 h2 ⟨c2,oc,vs,t,e,ho,hd,hv⟩ k=>by cases e;exact ⟨c,oc,vs,t,rfl,k _ ho,hd,hv⟩⟩
theorem lam_eval {P c:Addr}{pos:Pos}{params:Arguments}{body:Expr}{scope:Scope}{Q:Value->Shared->Prop} (I:Inv X pins σ H s) (mt:MT P pos (X.env.qual ++ "<lambda>") H) (hcode:X.env.code=.ref c) (hd:codeHdIn X.K c P=true) (bm:BmAt X.mg X.base)
  (hdef:defaultsOf params X.env=([],[])) (hcl:closureFor scope X.env=pure [])
  (h:∀ f c' ctv pm H' s',Inv X ((f,kla_obj "<lambda>" (X.env.qual ++ "<lambda>") params body scope [] pm c' ctv)::pins) σ H' s'->H' c'=some (codeO c' (X.env.qual ++ "<lambda>"))->Sm.But P H H'->MT P pos (X.env.qual ++ "<lambda>") H'->Q (.ref f) s') :
  wpAny (model X.prog X.w) X.A (eval (.Lambda params body scope pos) X.env) Q X.xe s:=by
 refine kla_eval hdef ?_
 have glob:s.heap.Ns mainGlobals X.mg:=I.mod.glob.keeps I.bk
 have C:CodeHd s.heap c P:=codeHd_of_K I.kIn hd
 have tr:∃ o,H P=some o:=by rcases mt with e | ⟨_,e,_⟩ <;> exact ⟨_,e⟩
 have inB:∀ b o,X.base.get? b=some o->b≠P:=λb o e z=>by
  have:=(I.bs b o e).2
  obtain ⟨u,hu⟩:=tr
  rw [z,hu] at this;cases this
 have hgP:mainGlobals≠P:=by
  obtain ⟨o,_,_,e,_⟩:=I.mod.glob
  exact inB _ _ e
 have hB:s.heap.BuiltinsAt X.mg P:=by
  obtain ⟨b,o,e1,e2,e3,e4,e5,e6,e7⟩:=bm
  exact ⟨b,o,e1,e2,e3,inB _ _ e4,I.bk _ _ e4,e5,e6,e7⟩
 have pin:∀ {h':Heap}{H':Hp}{ob:Obj}{tk:Nat},Inv X pins σ H' { s with heap:=h'.push ob,toks:=tk }->s.heap.objs.size<=h'.objs.size->H' h'.objs.size=none->(∀ v,ob.data≠.cell v)->ob.isFreed=false->Inv X ((h'.objs.size,ob)::pins) σ H' { s with heap:=h'.push ob,toks:=tk }:=λ{h' H' ob tk} J hs hn nc nf=>
  J.pins_of λp hp=>by
   rcases zH.mp hp with rfl | hp
   ·exact ⟨Heap.get?_push_size _ nf,hn,yN (zR I.lt hs),λz=>yF _ (zR (I.fsLt _ z) hs),nc⟩
   ·exact J.pin p (zP _ hp)
 rcases mt with mt | ⟨c1,mt,hc1⟩
 ·have hP:s.heap.get? P=some (tabObj #[]):=I.hok P _ mt
  refine kla_makeFunction hcl I.ok.glob glob hcode C hP trivial rfl hgP hB λc' ctv h' tk hx hge hlt rec hP'=>?_
  have fr:H c'=none:=I.hok.fresh hge
  have ncP:c'≠P:=λz=>by rw [z,mt] at fr;cases fr
  have rec':(h'.push (kla_obj "<lambda>" (X.env.qual ++ "<lambda>") params body scope [] ((X.mg "__name__").getD .none) c' ctv)).CodeRec (.ref c') (X.env.qual ++ "<lambda>"):=by
   obtain ⟨c2,oc,vs,t,e,ho,hd,hv⟩:=rec
   exact ⟨c2,oc,vs,t,e,Heap.get?_push_of_some _ ho,hd,hv⟩
  have kp:∀ b o,b≠P->s.heap.get? b=some o->(h'.push (kla_obj "<lambda>" (X.env.qual ++ "<lambda>") params body scope [] ((X.mg "__name__").getD .none) c' ctv)).get? b=some o:=λb o hb e=>Heap.get?_push_of_some _ (hx b o hb e)
  have hP2:=Heap.get?_push_of_some (kla_obj "<lambda>" (X.env.qual ++ "<lambda>") params body scope [] ((X.mg "__name__").getD .none) c' ctv) hP'
  have at_:∀ b,b≠P->b≠c'->upd (upd H P (.tbl #[rawInt pos.line,rawInt pos.col,.ref c'])) c' (codeO c' (X.env.qual ++ "<lambda>")) b=H b:=λb h1 h2=>by rw [xb h2,xb h1]
  have neT:∀ b u,H b=some u->u≠.tbl #[]->b≠P:=λb u e n z=>by rw [z,mt] at e;cases e;exact n rfl
  have neC:∀ b u,H b=some u->b≠c':=λb u e z=>by rw [z,fr] at e;cases e
  have lt:∀ b o,s.heap.get? b=some o->b≠c':=λb o e=>zU (zR (Heap.lt_size e) hge)
  have aP:upd (upd H P (.tbl #[rawInt pos.line,rawInt pos.col,.ref c'])) c' (codeO c' (X.env.qual ++ "<lambda>")) P=some (.tbl #[rawInt pos.line,rawInt pos.col,.ref c']):=by rw [xb ncP.symm,xW]
  have J:Inv X pins σ (upd (upd H P (.tbl #[rawInt pos.line,rawInt pos.col,.ref c'])) c' (codeO c' (X.env.qual ++ "<lambda>"))) { s with heap:=h'.push (kla_obj "<lambda>" (X.env.qual ++ "<lambda>") params body scope [] ((X.mg "__name__").getD .none) c' ctv),toks:=tk }:=by
   refine I.un ⟨λb o e n _ _=>kp b o (λz=>by rw [z,mt] at n;cases n) e,λb o e n _ _=>⟨o.slots,kp b o (λz=>by rw [z,mt] at n;cases n) e⟩,λb o e n _=>?_,λb o e _=>?_,λb xs e=>?_,λb o u e=>?_,λb ps e=>?_⟩ λb u e=>?_
   ·rw [at_ b (λz=>by rw [z,mt] at n;cases n) (lt b o e)];exact n
   ·by_cases z:b=P
    ·exact ⟨_,by rw [z];exact hP2⟩
    ·exact ⟨o,kp b o z e⟩
   ·rw [at_ b (neT b _ e (by intro z;cases z)) (neC b _ e)];exact e
   ·rw [at_ b (neT b _ e (by intro z;cases z)) (neC b _ e)];exact e
   ·by_cases z:b=P
    ·rw [z,mt] at e;cases e
     exact ⟨_,by rw [z,aP,Array.empty_append]⟩
    ·exact ⟨#[],by rw [at_ b z (neC b _ e),e,Array.append_empty]⟩
   ·by_cases z:b=c'
    ·subst z;rw [xW] at e;cases e
     exact codeO_ok rec'
    ·by_cases z2:b=P
     ·rw [z2,aP] at e;cases e
      rw [z2]
      exact hP2
     ·rw [at_ b z2 z] at e
      refine (I.hok b u e).stay (λb' v hb q=>kp b' v (λy=>?_) q) (λb' q=>by rw [at_ b' (neT b' _ q (by intro z;cases z)) (neC b' _ q)];exact q) λb' xs q=>by rw [at_ b' (neT b' _ q (by intro z;cases z)) (neC b' _ q)];exact q
      rcases hb with hb | hb
      ·exact z2 (hb.symm.trans y)
      ·rw [y,mt] at hb;cases hb
  have nf:upd (upd H P (.tbl #[rawInt pos.line,rawInt pos.col,.ref c'])) c' (codeO c' (X.env.qual ++ "<lambda>")) h'.objs.size=none:=by
   rw [at_ h'.objs.size (yN (Heap.lt_size hP')) (yN hlt)]
   exact I.hok.fresh (by omega)
  refine h _ c' ctv ((X.mg "__name__").getD .none) _ _ (pin J (by omega) nf (by intro v z;cases z) rfl) xW (λb u hb e=>?_) (.inr ⟨c',aP,xW⟩)
  rw [at_ b hb (neC b _ e)];exact e
 ·have hP:s.heap.get? P=some (tabObj #[rawInt pos.line,rawInt pos.col,.ref c1]):=I.hok P _ mt
  refine kla_makeFunctionHit (cv:=.ref c1) hcl I.ok.glob glob hcode C hP ⟨⟩ ?_ hB λctv h' tk kp hs=>?_
  ·have:=codeAmong_snoc (pos:=pos) (c:=Value.ref c1) [] trivial rfl
   exact this
  ·have J:Inv X pins σ H { s with heap:=h'.push (kla_obj "<lambda>" (X.env.qual ++ "<lambda>") params body scope [] ((X.mg "__name__").getD .none) c1 ctv),toks:=tk }:=I.kept λb o e=>Heap.get?_push_of_some _ (kp b o e)
   refine h _ c1 ctv ((X.mg "__name__").getD .none) H _ (pin J hs (I.hok.fresh hs) (by intro v z;cases z) rfl) hc1 (Sm.But.refl P H) (.inr ⟨c1,mt,hc1⟩)
end
end L2
namespace L2
open PySem PySem.Spec PyProof.Rows PySem.W SmSort
section
variable {X:Cx}{pins:List (Addr×Obj)}{σ:St}{H:Hp}{s:Shared}
theorem Inv.adopt {h':Heap}{D:Addr}{xs:List V}{its:List Value}{n t':Nat} (I:Inv X pins σ H s) (k:∀ b o,b≠D->s.heap.get? b=some o->h'.get? b=some o) (hn:H D=none) (hs:X.s₀.heap.objs.size<=D) (hL:D≠X.env.locals)
  (h2:∀ x c,X.env.cells.lookup x=some c->c≠D) (h3:∀ p∈X.pn++pins,p.1≠D) (ho:h'.get? D=some { cls:=.type "list", data:=.seq its.toArray n }) (hv:Vals xs its) (hz:xs.length<=sizeLine) :
  Inv X pins σ (upd H D (.lst xs)) { s with heap:=h',toks:=t' }:=by
 have nD:∀ b u,H b=some u->b≠D:=λb u e z=>by rw [z,hn] at e;cases e
 refine I.step (g':=s.gens) (d':=s.drawn) (ch:=[D]) (λb hb=>?_) (λb o _ _ hc e _=>k b o (λz=>hc (by simp [z])) e) (λb o _ _ hc e _=>⟨o.slots,k b o (λz=>hc (by simp [z])) e⟩)
  (λb o hc e n=>by rw [xb (λz=>hc (by simp [z]))];exact n) (λb o hc e=>⟨o,k b o (λz=>hc (by simp [z])) e⟩) (λb ys e=>by rw [xb (nD b _ e)];exact e) (λb o u e=>by rw [xb (nD b _ e)];exact e)
  (λb ps e=>⟨#[],by rw [xb (nD b _ e),e];simp⟩) (λm hm=>?_) (λb u e=>?_) I.bare
 ·have e:b=D:=by simpa using hb
  subst e
  exact ⟨.inr hs,hL,h2,h3⟩
 ·obtain ⟨o,es,ep,ho',r⟩:=hm
  exact ⟨o,es,ep,k _ o (Ne.symm hL) ho',r⟩
 ·by_cases hb:b=D
  ·subst hb;rw [xW] at e;cases e
   exact ⟨hz,its,n,hv,ho⟩
  ·rw [xb hb] at e
   refine (I.hok b u e).stay (λc v hc q=>k c v ?_ q) (λc q=>by rw [xb (nD c _ q)];exact q) λc ys q=>by rw [xb (nD c _ q)];exact q
   rcases hc with z | z
   ·rw [z];exact hb
   ·exact nD c _ z
theorem Inv.cellLt (I:Inv X pins σ H s) {x:Str}{c:Addr} (h:X.env.cells.lookup x=some c):c < s.heap.objs.size:=by
 obtain ⟨v,o,ho,_⟩:=I.cell x c h
 exact Heap.lt_size ho
theorem zip_snds {a b:List Value} (h:b.length<=a.length):(a.toArray.zip b.toArray).map (·.2)=b.toArray:=by
 apply Array.toList_inj.mp
 rw [Array.toList_map,ksk_zip]
 exact List.map_snd_zip h
structure Keyed' (X:Cx) (pins:List (Addr×Obj)) (σ:St) (H:Hp) (kS:Addr) (kf:List Int->List Int) (ps:List (Addr×List Int)) (i:Nat) (s':Shared):Prop where
 ex:∃ H',∃ ks:List (Addr×List Int),Inv X pins σ H' s'/\H' kS=some (.lst (ks.map λk=>V.ref k.1))/\(∀ b u,H b=some u->H' b=some u)/\(∀ k∈ks,H' k.1=some (.tup (k.2.map V.int)))/\ks.map (·.2)=(ps.take i).map λa=>kf a.2
theorem sort_tree {f:Value}{D:Addr}{h:Heap}{kf:List Int->List Int}{ps:List (Addr×List Int)}{A:Around}{P:PySem.Fin->Shared->Prop}{E:Value->Shared->Prop} {t0:Nat} (I:Inv X pins σ H s) (kp:∀ b o,s.heap.get? b=some o->h.get? b=some o) (hDs:s.heap.objs.size<=D) (hDh:D < h.objs.size)
  (hD:h.get? D=some (seqObj "list" (ps.map λa=>Value.ref a.1).toArray 0)) (h64:ps.length < 64) (rows:∀ a∈ps,H a.1=some (.tup (a.2.map V.int))) (kne:∀ a∈ps,kf a.2≠[])
  (turn:∀ (pins':List (Addr×Obj)) (a:Addr) (r:List Int) (s':Shared) (H':Hp),(∀ p∈pins,p∈pins')->(a,r)∈ps->Inv X pins' σ H' s'->(∀ b u,H b=some u->H' b=some u) ->
   wpAny (model X.prog X.w) A (call f [.ref a]) (EP X pins' σ λv H''=>∃ t,v=.ref t/\Same H' H''/\H'' t=some (.tup ((kf r).map V.int))) (λ_ _=>False) s')
  (q:∀ qs H2 s2,Inv X pins σ (upd H2 D (.lst (qs.map λa=>V.ref a.1))) s2->H2 D=none->(∀ b u,H b=some u->H2 b=some u)->List.Perm qs ps->qs.Pairwise (λa b=>lx (kf b.2) (kf a.2)=false)->P (.done (.ret .none)) s2) :
  wpAny (model X.prog X.w) A (ksk_tree D f false) P E { s with heap:=h,toks:=t0 }:=by
 have line:100<=sizeLine:=by rw [sizeLine_eq];decide
 unfold ksk_tree
 refine wpAny_bind (listItems_at (s:={ s with heap:=h,toks:=t0 }) hD rfl ?_)
 refine wpAny_bind (listUpdate_at (s:={ s with heap:=h,toks:=t0 }) hD rfl ?_ (by rw [zM,zA];omega) (zc _))
 obtain ⟨e1,ho1⟩:∃ e1,(h.update D (Obj.mapSeq λ_=>(#[]:Array Value))).get? D=some (seqObj "list" #[] e1):=⟨_,get?_update_seq hD λ_=>#[]⟩
 refine wpAny_bind (seqEpoch_at ho1 rfl ?_)
 refine wpAny_bind (wpAny_newTuple ?_ (by show (ps.map λa=>Value.ref a.1).length<=_;rw [zA];omega))
 refine wpAny_bind (wpAny_newList ?_ (zc _))
 refine wpAny_holding ?_
 have sz2:((h.update D (Obj.mapSeq λ_=>(#[]:Array Value))).push (seqObj "tuple" (ps.map λa=>Value.ref a.1).toArray 0)).objs.size=h.objs.size + 1:=by rw [size_push',Heap.size_update]
 show wpAny _ _ (ksk_rest D f false (ps.map λa=>Value.ref a.1).toArray e1 (.ref ((h.update D (Obj.mapSeq λ_=>(#[]:Array Value))).push (seqObj "tuple" (ps.map λa=>Value.ref a.1).toArray 0)).objs.size)) _ _ _
 rw [sz2]
 have kS1:D < h.objs.size + 1:=yY hDh
 have kp3:∀ b o,s.heap.get? b=some o->(((h.update D (Obj.mapSeq λ_=>(#[]:Array Value))).push (seqObj "tuple" (ps.map λa=>Value.ref a.1).toArray 0)).push (seqObj "list" #[] 0)).get? b=some o:=λb o e=>by
  refine Heap.get?_push_of_some _ (Heap.get?_push_of_some _ ?_)
  rw [Heap.get?_update_ne _ _ _ _ (zU (zR (Heap.lt_size e) hDs))]
  exact kp b o e
 have atK:=Heap.get?_push_size ((h.update D (Obj.mapSeq λ_=>(#[]:Array Value))).push (seqObj "tuple" (ps.map λa=>Value.ref a.1).toArray 0)) (o:=seqObj "list" #[] 0) rfl
 rw [sz2] at atK
 have atD:=Heap.get?_push_of_some (seqObj "list" #[] 0) (Heap.get?_push_of_some (seqObj "tuple" (ps.map λa=>Value.ref a.1).toArray 0) ho1)
 have szS:s.heap.objs.size<=h.objs.size + 1:=z8 hDs (xF (yY hDh))
 have I3:Inv X pins σ (upd H (h.objs.size + 1) (.lst [])) { s with heap:=((h.update D (Obj.mapSeq λ_=>(#[]:Array Value))).push (seqObj "tuple" (ps.map λa=>Value.ref a.1).toArray 0)).push (seqObj "list" #[] 0),toks:=t0 }:=
  I.laid kp3 szS (show ObjOk X.prog X.w _ _ _ (.lst []) from ⟨zc _,[],0,.nil,atK⟩)
 have fD:H D=none:=I.hok.fresh hDs
 have I4:=I3.pins_of (pins':=(D,seqObj "list" #[] e1)::pins) λp hp=>by
  rcases zH.mp hp with rfl | hp
  ·exact ⟨atD,by rw [xb (zU kS1)];exact fD,yN (zR I.lt hDs),λz=>yF _ (zR (I.fsLt _ z) hDs),by intro v z;cases z⟩
  ·exact I3.pin p (zP _ hp)
 generalize ((h.update D (Obj.mapSeq λ_=>(#[]:Array Value))).push (seqObj "tuple" (ps.map λa=>Value.ref a.1).toArray 0)).push (seqObj "list" #[] 0)=h3 at I4 ⊢
 have fK:H (h.objs.size + 1)=none:=I.hok.fresh szS
 generalize hkS:h.objs.size + 1=kS at *
 unfold ksk_rest
 refine wpAny_bind (wpAny_rule ?_)
 rw [List.forIn_toArray]
 refine wpAny_bind (ksk_fold (λi s'=>Keyed' X ((D,seqObj "list" #[] e1)::pins) σ H kS kf ps i s') (ps.map λa=>Value.ref a.1) 0 _ ⟨_,[],I4,xW,λb u e=>by rw [xb (xZ e fK)];exact e,(λ_ z=>nomatch z),rfl⟩ ?step ?done)
 case step=>
  rintro j x s' hx ⟨H',ks,J,hk,ext,hks,ek⟩
  rw [xQ] at ek
  rw [zS] at hx
  cases ea:ps[j]? with
  | none=>rw [ea] at hx;cases hx
  | some a=>
   rw [ea] at hx
   have hx:Value.ref a.1=x:=Option.some.inj hx
   subst hx
   refine wpAny_bind (wpAny_attempt (wpAny_mono (turn _ a.1 a.2 s' H' (λp hp=>zf _ hp) (zC ea) J ext) (λv s'' he=>?_) λ_ _ hF=>hF.elim))
   obtain ⟨v',H'',J2,rv,t,rfl,sm,ht⟩:=he
   cases rv
   have hk2:=sm _ _ hk
   obtain ⟨z,its,n,r,hl,e⟩:=J2.lstM hk2
   have lk:ks.length<=j:=by have:=congrArg List.length ek;rw [zA,zA,zX] at this;omega
   have jl:j < ps.length:=(zB.mp ea).1
   have li:its.length=ks.length:=by rw [<-hl,zA]
   dsimp only
   refine wpAny_bind (listUpdate_at e rfl ?_ (by rw [zM];omega) (by rw [Array.size_push,zM];omega))
   have ne:∀ b u,H b=some u->b≠kS:=λb u e=>xZ e fK
   have J3:Inv X ((D,seqObj "list" #[] e1)::pins) σ (upd H'' kS (.lst ((ks++[(t,kf a.2)]).map λk:Addr×List Int=>V.ref k.1))) { s'' with heap:=s''.heap.update kS (Obj.mapSeq (·.push (Value.ref t))),toks:=s''.toks }:=
    J2.lset (its':=its++[Value.ref t]) hk2 e (by simp) (by rw [zK];exact r.append (.cons rfl .nil)) (by rw [zA,zE,z6];omega)
   refine wpAny_pure ⟨rfl,_,ks++[(t,kf a.2)],J3,xW,λb u e=>by rw [xb (ne b u e)];exact sm _ _ (ext b u e),λk hk'=>?_,?_⟩
   ·rcases zT.mp hk' with h' | h'
    ·have:=sm _ _ (hks k h')
     rw [xb (ne_of this hk2 (by intro z;cases z))];exact this
    ·cases zF.mp h'
     rw [xb (ne_of ht hk2 (by intro z;cases z))];exact ht
   ·rw [xQ,zK,ek,List.take_add_one,ea,zK];rfl
 case done=>
  rintro s' ⟨H',ks,J,hk,ext,hks,ek⟩
  rw [xQ,zA,zu] at ek
  obtain ⟨z,its,n,r,hl,e⟩:=J.lstM hk
  refine wpAny_bind (listItems_at e rfl ?_)
  have ei:=vals_refs r
  subst ei
  have lks:ks.length=ps.length:=by have:=congrArg List.length ek;rw [zA,zA] at this;exact this
  have pinD:=J.pin (D,seqObj "list" #[] e1) (zP _ (.head _))
  have s0D:X.s₀.heap.objs.size<=D:=z8 I.sz hDs
  have kSD:kS≠D:=yN kS1
  -- the end
  have tail:∀ (st:SortSt) (qs:List (Addr×List Int)),(arrOf st).map (·.2)=(qs.map λa=>Value.ref a.1).toArray->failedOf st=none->List.Perm qs ps->qs.Pairwise (λa b=>lx (kf b.2) (kf a.2)=false)->wpAny (model X.prog X.w) A (ksk_tail D false e1 (.ref kS) st) P E s':=λst qs har hf pm so=>by
   have lq:qs.length < 64:=by rw [pm.length_eq];exact h64
   unfold ksk_tail
   dsimp only
   rw [har,hf]
   refine wpAny_bind (listUpdate_at e rfl ?_ (by rw [zM,zA];omega) (zc _))
   refine wpAny_bind (wpAny_letGo ?_)
   have s1:=Heap.SameBut.update s'.heap kS (Obj.mapSeq λ_=>(#[]:Array Value))
   have aD:(s'.heap.update kS (Obj.mapSeq λ_=>(#[]:Array Value))).get? D=some (seqObj "list" #[] e1):=(s1.2 D kSD.symm).trans pinD.1
   refine wpAny_bind (seqEpoch_at aD rfl ?_)
   refine wpAny_bind (listUpdate_at aD rfl ?_ (zc _) (by show (qs.map λa=>Value.ref a.1).toArray.size<=_;rw [zM,zA];omega))
   simp only [bne_self_eq_false,zb,if_false]
   have J2:=J.lset (its':=[]) (f:=λ_=>#[]) (t':=s'.toks) hk e (by simp) (.nil:Vals [] []) (zc _)
   have J3:Inv X pins σ (upd H' kS (.lst [])) { s' with heap:=s'.heap.update kS (Obj.mapSeq λ_=>(#[]:Array Value)) }:=J2.pins_of λp hp=>J2.pin p (zP _ (.tail _ hp))
   obtain ⟨c2,hc2⟩:∃ c2,((s'.heap.update kS (Obj.mapSeq λ_=>(#[]:Array Value))).update D (Obj.mapSeq λ_=>(qs.map λa=>Value.ref a.1).toArray)).get? D=some (seqObj "list" (qs.map λa=>Value.ref a.1).toArray c2):=⟨_,get?_update_seq aD _⟩
   have hnD:(upd H' kS (.lst [])) D=none:=by rw [xb kSD.symm];exact pinD.2.1
   have J4:Inv X pins σ (upd (upd H' kS (.lst [])) D (.lst (qs.map λa=>V.ref a.1))) { s' with heap:=(s'.heap.update kS (Obj.mapSeq λ_=>(#[]:Array Value))).update D (Obj.mapSeq λ_=>(qs.map λa=>Value.ref a.1).toArray),toks:=s'.toks }:=
    J3.adopt (λb o hb q=>(Heap.get?_update_other _ _ (Ne.symm hb)).trans q) hnD s0D (yN (zR I.lt hDs)) (λx c hc=>zU (zR (I.cellLt hc) hDs)) (λp hp=>zU (zR (Heap.lt_size (I.pin p hp).1) hDs)) hc2 (vals_of_refs qs) (by rw [zA];omega)
   refine wpAny_pure (q qs _ _ J4 hnD (λb u e=>?_) pm so)
   rw [xb (xZ e fK)];exact ext b u e
  unfold ksk_end
  dsimp only
  rw [if_neg (by decide:¬ false=true)]
  have szi:(ps.map λa=>Value.ref a.1).toArray.size=ps.length:=by rw [zM,zA]
  by_cases h2:ps.length < 2
  ·have h2':(ps.map λa=>Value.ref a.1).toArray.size < 2:=by rw [szi];exact h2
   rw [if_pos h2',if_pos h2']
   refine wpAny_bind (wpAny_pure ?_)
   rw [StateT.run_pure]
   refine wpAny_bind (wpAny_pure ?_)
   dsimp only
   refine tail _ ps ?_ rfl (List.Perm.refl _) ?_
   ·show ((ks.map λa=>Value.ref a.1).toArray.zip (ps.map λa=>Value.ref a.1).toArray).map (·.2)=_
    exact zip_snds (by rw [zA,zA,lks];exact zD _)
   ·match ps,h2 with
    | [],_=>exact .nil
    | [_],_=>exact List.pairwise_singleton _ _
  ·have h2':¬ (ps.map λa=>Value.ref a.1).toArray.size < 2:=by rw [szi];exact h2
   rw [if_neg h2',if_neg h2']
   have rowAt:∀ a∈ks,RowAt s'.heap a.1 a.2/\a.2≠[]:=λa ha=>by
    obtain ⟨_,its,rv,o,e,c,n,d⟩:=J.hok a.1 _ (hks a ha)
    refine ⟨⟨o,_,n,e,c,d,rv⟩,?_⟩
    have:a.2∈ks.map (·.2):=zQ.mpr ⟨a,ha,rfl⟩
    rw [ek] at this
    obtain ⟨b,hb,eb⟩:=zQ.mp this
    rw [<-eb];exact kne b hb
   obtain ⟨fs,kt,lf,hf⟩:=kat_tups rowAt
   refine wpAny_bind (kat_kind (T:=.type "int") kt (by omega) (λv hv=>?_) (by decide) ?_)
   ·obtain ⟨i,t,rfl⟩:=hf v hv
    exact Looks.now
   have n1:1<=(ps.map λa=>Value.ref a.1).length:=by rw [zA];omega
   have hkl:(ks.map λa=>Value.ref a.1).length=(ps.map λa=>Value.ref a.1).length:=by rw [zA,zA];exact lks
   refine wpAny_bind (wpAny_mono (kat_run (Q:=λst' s''=>s''=s'/\∃ p:Array Nat,arrOf st'=p.map (kas_item ((ks.map λa=>Value.ref a.1).toArray.zip (ps.map λa=>Value.ref a.1).toArray))/\failedOf st'=none/\Pm ps.length p/\Up (λi=>rk (ks.map (·.2)) ((ks.map (·.2)).getD i [])) p ps.length) (G:=λp s''=>s''=s'/\Pm ps.length p/\Up (λi=>rk (ks.map (·.2)) ((ks.map (·.2)).getD i [])) p ps.length) hkl (by rw [zA];omega) (by rw [zA];exact h64) (λp st' s'' a1 a2 a3 a4=>⟨a4.1,p,a2,a3,a4.2⟩) ?_) ?_ λ_ _ e=>e)
   ·rw [zA]
    refine KOK.wp (c:=cf λi=>rk (ks.map (·.2)) ((ks.map (·.2)).getD i [])) (λi j C hi hj hC=>?_) (λpp hp=>⟨rfl,hp⟩) _ (sort_ok (f:=λi=>rk (ks.map (·.2)) ((ks.map (·.2)).getD i [])) (by omega))
    have hi':i < ks.length:=by omega
    have hj':j < ks.length:=by omega
    obtain ⟨⟨o,items,n,ho,hc,hd,hv⟩,hn⟩:=rowAt ks[i] (zj hi')
    obtain ⟨⟨o',items',n',ho',hc',hd',hv'⟩,hn'⟩:=rowAt ks[j] (zj hj')
    unfold kas_ask
    have ei:(ks.map λa=>Value.ref a.1).getD i Value.none=.ref ks[i].1:=by simp [hi']
    have ej:(ks.map λa=>Value.ref a.1).getD j Value.none=.ref ks[j].1:=by simp [hj']
    rw [ei,ej]
    refine kat_lt ho hd ho' hd' (vals_lex hv hv' (by simp) ?_)
    have e:cf (λi=>rk (ks.map (·.2)) ((ks.map (·.2)).getD i [])) i j=lx ks[i].2 ks[j].2:=by
     unfold cf
     have e1:(ks.map (·.2)).getD i []=ks[i].2:=by simp [hi']
     have e2:(ks.map (·.2)).getD j []=ks[j].2:=by simp [hj']
     simp only [e1,e2]
     exact rk_lt (zQ.mpr ⟨ks[i],zj hi',rfl⟩)
    rw [e] at hC
    exact hC
   ·rintro ⟨⟨⟩,st'⟩ s'' ⟨rfl,p,har,hfl,pm,up⟩
    dsimp only
    have pl:p.toList.Perm (List.range ps.length):=by
     have:=pm.toList
     simpa using this
    have perm:(p.toList.map λi=>ps.getD i (0,[])).Perm ps:=by
     have:=pl.map λi=>ps.getD i (0,[])
     rwa [range_map] at this
    refine tail st' (p.toList.map λi=>ps.getD i (0,[])) ?_ hfl perm ?_
    ·rw [kat_snds hkl har,yA]
     congr 1
     refine yR λi hi=>?_
     have hi':i < ps.length:=zl.mp (pl.mem_iff.mp hi)
     simp [hi']
    ·rw [zp]
     intro i j hi hj hij
     simp only [zA,Array.length_toList] at hi hj
     simp only [List.getElem_map,Array.getElem_toList]
     have hn:p.size=ps.length:=pm.size
     have key:=up i j (xF hij) (by omega)
     have a1:p[i] < ps.length:=zl.mp (pl.mem_iff.mp (by simp))
     have a2:p[j] < ps.length:=zl.mp (pl.mem_iff.mp (by simp))
     unfold g SmSort.at' at key
     simp only [hi,hj,getElem?_pos,Option.getD_some] at key
     have e0:∀ k (hk:k < ps.length),(ks.map (·.2)).getD k []=kf ps[k].2:=λk hk=>by rw [ek];simp [hk]
     have e1:=e0 p[i] a1
     have e2:=e0 p[j] a2
     rw [e1,e2] at key
     have e3:ps.getD p[i] (0,[])=ps[p[i]]:=by simp [a1]
     have e4:ps.getD p[j] (0,[])=ps[p[j]]:=by simp [a2]
     rw [e3,e4]
     have:=rk_lt (rs:=ks.map (·.2)) (a:=kf ps[p[j]].2) (b:=kf ps[p[i]].2) (by rw [ek];exact zQ.mpr ⟨_,zj a2,rfl⟩)
     rw [<-this]
     simp only [decide_eq_false_iff_not]
     omega
end
end L2
namespace L2
open PySem PySem.Spec PyProof.Rows PySem.W SmSort PySem.Calls
def tSortK (P:Addr) (lpos:Pos) (qual:Str) (ok:List Int->Prop) (kf:List Int->List Int) (te:TE):TE:=fun σ H Q=>te σ H λx H1=>∃ p,∃ ps:List (Addr×List Int),[x]=[V.ref p]/\H1 p=some (.lst (ps.map λa=>V.ref a.1))/\ps.length < 64/\MT P lpos qual H1/\(∀ a∈ps,H1 a.1=some (.tup (a.2.map V.int))/\ok a.2) /\
 ∀ l (qs:List (Addr×List Int)) H2,H1 l=none->Sm.But P H1 H2->MT P lpos qual H2->H2 l=some (.lst (qs.map λa:Addr×List Int=>V.ref a.1))->List.Perm qs ps->qs.Pairwise (λa b:Addr×List Int=>lx (kf b.2) (kf a.2)=false)->Q (.ref l) H2
section
variable {X:Cx}{e body:Expr}{te:TE}{np kp lpos pos:Pos}{params:Arguments}{scope:Scope}{P c:Addr}{N:List Str}{ok:List Int->Prop}{kf:List Int->List Int}{pn:Str}
theorem pe_sortKey (hg:Gl X "sorted") (hm:X.mg "sorted" = none) (hcode:X.env.code=.ref c) (hcd:codeHdIn X.K c P=true) (bm:BmAt X.mg X.base) (hdef:defaultsOf params X.env=([],[])) (hcl:closureFor scope X.env=pure []) (hr:Room 3 X.A)
  (S:FnScope N [pn] scope) (hbind:∀ pm c' ctv u,bindArgs (kla_fn "<lambda>" (X.env.qual ++ "<lambda>") params body scope [] pm (.ref c') ctv) ⟨[u],[]⟩=pure (List.zip [pn] [u])) (kne:∀ r,ok r->kf r≠[])
  (hbody:∀ f c' A s H,∃ t,PE (cxOf CX0 X.prog X.w X.K X.mg X.base N (X.env.qual ++ "<lambda>") scope f (.ref c') A X.stack s H E0).nox body t/\∀ a r,H a=some (.tup (r.map V.int))->ok r->t (start N [.ref a]) H (λv H''=>∃ t,v=.ref t/\Same H H''/\H'' t=some (.tup ((kf r).map V.int))))
  (he:PE X e te) (ns:notStar e=true) :
  PE X (.Call (.Name "sorted" np) [e] [⟨some "key", .Lambda params body scope lpos,kp⟩] pos) (tSortK P lpos (X.env.qual ++ "<lambda>") ok kf te):=by
 intro pins s σ H Q I h
 have ha:PA X [e] (tCons te tNil):=xV (xX he xi ns)
 have line:100<=sizeLine:=by rw [sizeLine_eq];decide
 refine wpAny_Call_Name_kw (ld_blt I hg hm PyProof.Rows.boot_sorted ?_ (by decide) (by decide))
 refine callWith_kw (thn (ha pos pins s σ H (λvs H1=>∃ p,∃ ps:List (Addr×List Int),vs=[V.ref p]/\H1 p=some (.lst (ps.map λa=>V.ref a.1))/\ps.length < 64/\MT P lpos (X.env.qual ++ "<lambda>") H1/\(∀ a∈ps,H1 a.1=some (.tup (a.2.map V.int))/\ok a.2) /\
  ∀ l (qs:List (Addr×List Int)) H2,H1 l=none->Sm.But P H1 H2->MT P lpos (X.env.qual ++ "<lambda>") H2->H2 l=some (.lst (qs.map λa:Addr×List Int=>V.ref a.1))->List.Perm qs ps->qs.Pairwise (λa b:Addr×List Int=>lx (kf b.2) (kf a.2)=false)->Q (.ref l) H2) I h)
  λus s1 ⟨vs,H1,I1,r1,q1⟩=>kws_cons ?_) (by rw [star_cons ns];rfl) (by rw [star_cons ns];rfl)
 obtain ⟨p,ps,rfl,hp,h64,mt,rows,q⟩:=q1
 obtain ⟨u,rfl,ru⟩:=vals1 r1
 cases ru
 refine lam_eval I1 mt hcode hcd bm hdef hcl λf c' ctv pm H' s' J hc' bt mt'=>kws_nil ?_
 have neP:∀ b u,H1 b=some u->(∀ ys,u≠.tbl ys)->b≠P:=λb u e n z=>by
  rcases mt with m | ⟨_,m,_⟩ <;> (rw [z,m] at e;cases e;exact n _ rfl)
 have hp':=bt _ _ (neP _ _ hp (by intro ys z;cases z)) hp
 have rows':∀ a∈ps,H' a.1=some (.tup (a.2.map V.int)):=λa ha=>bt _ _ (neP _ _ (rows a ha).1 (by intro ys z;cases z)) (rows a ha).1
 obtain ⟨z,its,n,r,hl,hpe⟩:=J.lstM hp'
 have ei:=vals_refs r
 subst ei
 refine call_function_entry_kw kind_sorted plain_sorted entry_sorted (ksk_s1 _ _) ?_
 unfold Builtin.«sorted»
 refine wpAny_bind (m:=checkCount "sorted" 1 1 _) (wpAny_pure ?_)
 refine wpAny_bind (collect_list (vs:=(ps.map λa=>Value.ref a.1)) ⟨_,hpe,rfl,_,rfl⟩ ?_ (by rw [zA];omega))
 refine wpAny_bind (wpAny_newList ?_ (by rw [zA];omega))
 have hsz:((s'.heap.push (seqObj "list" #[] 0)).update s'.heap.objs.size (Obj.mapSeq (·++(ps.map λa=>Value.ref a.1).toArray))).objs.size=s'.heap.objs.size + 1:=by
  rw [Heap.size_update,size_push']
 have hoL:(((s'.heap.push (seqObj "list" #[] 0)).update s'.heap.objs.size (Obj.mapSeq (·++(ps.map λa=>Value.ref a.1).toArray))).push (seqObj "list" (ps.map λa=>Value.ref a.1).toArray 0)).get? (s'.heap.objs.size + 1)=some (seqObj "list" (ps.map λa=>Value.ref a.1).toArray 0):=by
  rw [<-hsz];exact Heap.get?_push_size _ rfl
 have keep:∀ b o,s'.heap.get? b=some o->(((s'.heap.push (seqObj "list" #[] 0)).update s'.heap.objs.size (Obj.mapSeq (·++(ps.map λa=>Value.ref a.1).toArray))).push (seqObj "list" (ps.map λa=>Value.ref a.1).toArray 0)).get? b=some o:=λb o q=>by
  have hlt:b < s'.heap.objs.size:=Heap.lt_size q
  rw [Heap.get?_push_ne _ _ _ (by rw [hsz];exact zU (yY hlt)),Heap.get?_update_ne _ _ _ _ (zU hlt),Heap.get?_push_ne _ _ _ (zU hlt)]
  exact q
 show wpAny _ _ _ _ _ { s' with heap:=((s'.heap.push (seqObj "list" #[] 0)).update s'.heap.objs.size (Obj.mapSeq (·++(ps.map λa=>Value.ref a.1).toArray))).push (seqObj "list" (ps.map λa=>Value.ref a.1).toArray 0) }
 rw [hsz]
 refine wpAny_bind (wpAny_holding (wpAny_call_entry_kw slot_list_sort ⟨_,hoL,rfl⟩ entry_list_sort ?body (ksk_l1 _ _)))
 have hmem:(f,kla_obj "<lambda>" (X.env.qual ++ "<lambda>") params body scope [] pm c' ctv)∈(f,kla_obj "<lambda>" (X.env.qual ++ "<lambda>") params body scope [] pm c' ctv)::pins:=.head _
 show wpAny (model X.prog X.w) X.A.in1.in1 (Builtin.«list.sort» ⟨[.ref (s'.heap.objs.size + 1)],[(Str.ofString "key", .ref f)]⟩) _ _ _
 rw [ksk_t1]
 refine sort_tree (kf:=kf) (ps:=ps) J keep (yu _) (by rw [Heap.size_push,hsz];exact xH _) hoL h64 rows' (λa ha=>kne _ (rows a ha).2) (λpins' a rr s2 H2 sub ha J2 ext=>?_) λqs H2 s2 J2 hn ext pm' so=>?_
 ·have hf:=J2.pin _ (zP _ (sub _ hmem))
  have hcr:s2.heap.CodeRec (.ref c') (X.env.qual ++ "<lambda>"):=(J2.hok c' _ (ext _ _ hc')).1
  obtain ⟨t,ht,hq⟩:=hbody f c' X.A.in1.in1 s2 H2
  refine wpAny_call (codeAny_mono (lam_run (k:=0) S hr.in1.in1 J2.env0.in1.in1 hf.1 hcr (hbind pm c' ctv (.ref a)) (vs:=[V.ref a]) rfl (.cons rfl .nil) ⟨t,ht,hq a rr (ext _ _ (rows' _ ha)) (rows _ ha).2⟩) λr s3 hr3=>?_)
  cases r with
  | error e=>exact hr3.elim
  | ok fl=>
   cases fl with
   | ret u=>exact J2.after hr3
   | next=>exact False.elim hr3
   | brk=>exact False.elim hr3
   | cont=>exact False.elim hr3
 ·refine ⟨_,rfl,wpAny_pure ⟨_,rfl,?_⟩⟩
  have fr:H' (s'.heap.objs.size + 1)=none:=J.hok.fresh (yu _)
  have ext':∀ b u,H' b=some u->upd H2 (s'.heap.objs.size + 1) (.lst (qs.map λa=>V.ref a.1)) b=some u:=λb u e=>by rw [xb (xZ e fr)];exact ext b u e
  refine ⟨.ref (s'.heap.objs.size + 1),_,J2.pins_of λp hp=>J2.pin p (zP _ (.tail _ hp)),rfl,q _ qs _ ?_ (λb u n e=>ext' b u (bt b u n e)) ?_ xW pm' so⟩
  ·cases e:H1 (s'.heap.objs.size + 1) with
   | none=>rfl
   | some u=>
    by_cases z:s'.heap.objs.size + 1=P
    ·rcases mt' with m | ⟨_,m,_⟩ <;> (rw [<-z,fr] at m;cases m)
    ·rw [bt _ _ z e] at fr;cases fr
  ·rcases mt' with m | ⟨c1,m,m2⟩
   ·exact .inl (ext' _ _ m)
   ·exact .inr ⟨c1,ext' _ _ m,ext' _ _ m2⟩
theorem Fun.okC {P:Program}{w:World}{K:PySem.W.Frag}{mg:Str->Option Value}{base:Heap}{x qual:Str}{st:Stmt}{f c:Addr}{fd:FuncData}{N ps:List Str}{k:Nat}{sp:Sp} (F:Fun K x qual st f fd) (hc:fd.code=.ref c) (S:FnScope N ps (defScope st)) (len:∀ vs H Q E,sp vs H Q E->vs.length=ps.length)
  (hbody:∀ (A:Around) (outer:List Env) (s:Shared) (H:Hp) (vs:List V) (Q:VK) (E:XK),Room k (A.deeper (envOfC qual (defScope st) s.heap.objs.size f (.ref c)))->sp vs H Q E ->
   ∃ t,PSs (cxOf CX0 P w K mg base N qual (defScope st) f (.ref c) A outer s H E).nox (defBody st) t/\t { nx:=λ_ H'=>Q .non H',rt:=Q } (start N vs) H):FnOk P w K mg base CX0 (k + 1) f fd ps sp:=by
 obtain ⟨oc,od,kV,doc,pm,an,cdv,ct,osl,rfl,lk,hcd⟩:=F.ex
 have hc:cdv=.ref c:=hc
 subst hc
 refine fn_of lk hcd S len λA outer s H vs Q E hr hsp=>?_
 obtain ⟨t,h,q⟩:=hbody A outer s H vs Q E hr hsp
 exact ⟨t,h.nox,q⟩
end
end L2
namespace L2
open PySem PySem.Spec PyProof.Rows PySem.W
theorem noTab_of {K:PySem.W.Frag}{h:Heap}{P:Addr} (X:K.In h) (hP:h.get? P=some (tabObj #[])) (nt:noTabs K=true):K.lookup P=none:=by
 cases e:K.lookup P with
 | none=>rfl
 | some o=>
  have h1:=X P o e
  rw [hP] at h1;cases h1
  have h2:=yp.mp nt (P,_) (mem_of_lookupK e)
  exact absurd (show false=true from h2) zJ
theorem law_callT {P:Program}{w:World}{K:PySem.W.Frag}{mg mb:Str->Option Value}{CX:CXT}{k:Nat}{fa a c T:Addr}{fd:FuncData}{x:Str}{sp:Sp}{s₁:Shared}{vs:List Value}{ns:List Int}
  (KX:K.In s₁.heap) (hns:s₁.heap.Ns mainGlobals mg) (hb:s₁.heap.Ns builtinsNs mb) (hbb:∀ x:Str,x ≠ "__name__" -> mb x=bootBuiltins x) (hlim:s₁.heap.NoLimit) (hg:s₁.gens=#[])
  (hT:s₁.heap.get? T=some (tabObj #[])) (hC:codeHdIn K c T=true) (nt:noTabs K=true) (hbm:∃ bm ob,mg "__builtins__" = some (.ref bm)/\bm≠builtinsNs/\s₁.heap.get? bm=some ob/\ob.cls=.type "module" /\ ob.dict=some builtinsNs/\ob.data=.plain)
  (ha:s₁.heap.get? a=some { cls:=.type "list", data:=.seq vs.toArray }) (hi:IntsAre vs ns) (hl:ns.length<=sizeLine) (hr:Room k callerA)
  (F:∀ base:Heap,K.In base->base.Ns mainGlobals mg->BmAt mg base->FnOk P w K mg base CX k fa fd [x] sp) (hbind:∀ (s:Shared) (u:Value),BindsTo s fd ⟨[u],[]⟩ [(x,u)])
  (hsp:∀ H:Hp,H T=some (.tbl #[])->SqL K H a (ns.map V.int)->sp [.ref a] H (λv _=>v=.bl true) λ_ _ _=>False)
  (hCX:∀ H e s',CX [] H s₁ (λ_ _ _=>False) e s'->False) :
  codeAny (model P w) callerA (.call (.ref fa) ⟨[.ref a],[]⟩) (λr s'=>r=.ok (.ret (.bool true))/\OldK s₁.heap s'.heap/\s'.os=s₁.os/\AllBare s'.gens) s₁:=by
 have rv:=vals_ints hi
 have lenV:=hi.length
 have naT:a≠T:=λz=>by rw [z,hT] at ha;cases ha
 have lkT:=noTab_of KX hT nt
 have isT:=((codeHd_of_K KX hC).tab hT).isCodeTable
 have core:∀ H:Hp,(∀ b,H b=none\/(b=a/\∃ o xs,H b=some (.frz o (.lst xs)))\/(b=T/\H b=some (.tbl #[])))->H T=some (.tbl #[])->SqL K H a (ns.map V.int)->HOk P w H s₁.heap->(H a≠none->K.lookup a=none) ->
   codeAny (model P w) callerA (.call (.ref fa) ⟨[.ref a],[]⟩) (λr s'=>r=.ok (.ret (.bool true))/\OldK s₁.heap s'.heap/\s'.os=s₁.os/\AllBare s'.gens) s₁:=by
  intro H hO hTH hS hok hK
  have base_of:∀ {b:Addr}{o:Obj},s₁.heap.get? b=some o->H b=none->(hidT s₁.heap H).get? b=some o:=λe n=>hidT_get e n
  have noH:∀ {b:Addr}{o:Obj},s₁.heap.get? b=some o->(∀ i n,o.data≠.seq i n)->(∀ f,o.data≠.fields f)->H b=none:=λ{b o} e d1 d2=>by
   rcases hO b with q | ⟨rfl,_⟩ | ⟨rfl,_⟩
   ·exact q
   ·rw [ha] at e;cases e;exact absurd rfl (d1 _ _)
   ·rw [hT] at e;cases e;exact absurd rfl (d2 _)
  have nsK:∀ {b:Addr}{m:Str->Option Value},s₁.heap.Ns b m->(hidT s₁.heap H).Ns b m:=λ{b m} ⟨o,es,ep,e,d,r⟩=>⟨o,es,ep,base_of e (noH e (λi n z=>by rw [d] at z;cases z) λf z=>by rw [d] at z;cases z),d,r⟩
  have hKb:K.In (hidT s₁.heap H):=λb o e=>base_of (KX b o e) (by
   rcases hO b with q | ⟨rfl,_,_,q⟩ | ⟨rfl,q⟩
   ·exact q
   ·rw [hK (by rw [q];simp)] at e;cases e
   ·rw [lkT] at e;cases e)
  have hM:Mod K mg (hidT s₁.heap H):=⟨hKb,nsK hns,⟨mb,nsK hb,hbb⟩,let ⟨mc,h1,h2⟩:=hlim;⟨mc,nsK h1,h2⟩⟩
  have hB:BmAt mg (hidT s₁.heap H):=by
   obtain ⟨bm,ob,b1,b2,b3,b4,b5,b6⟩:=hbm
   refine ⟨bm,ob,b1,b2,λz=>?_,base_of b3 (noH b3 (λi n z=>by rw [b6] at z;cases z) λf z=>by rw [b6] at z;cases z),b4,b5,b6⟩
   obtain ⟨o,es,ep,e,d,_⟩:=hns
   rw [z,e] at b3;cases b3;rw [b6] at d;cases d
  have e0:Env0 P w K mg (hidT s₁.heap H) callerA [] s₁ H:=⟨rfl,hM,λb o e=>of_hidT e,Nat.le_of_eq (hidT_size _ _),trivial,λb hb=>absurd (show b∈([]:List Addr) from hb) (by simp),hok,.of_eq hg⟩
  refine codeAny_mono ((F _ hKb (nsK hns) hB).run callerA [] s₁ H ⟨[.ref a],[]⟩ [.ref a] [.ref a] _ _ hr e0 (hbind s₁ (.ref a)) (.cons rfl .nil) (hsp H hTH hS)) λr s' h=>?_
  cases r with
  | error e=>exact (hCX H e s' h).elim
  | ok fl=>
   cases fl with
   | next=>exact False.elim h
   | brk=>exact False.elim h
   | cont=>exact False.elim h
   | ret u=>
    obtain ⟨v,H',os,bare,un,hok',r',q⟩:=h
    have q':v=.bl true:=q
    subst q'
    obtain rfl:u=Value.bool true:=r'
    have all:∀ b o,s₁.heap.get? b=some o->s'.heap.get? b=some o\/(b=T/\∃ ps,s'.heap.get? T=some (tabObj ps)):=λb o e=>by
     rcases hO b with q | ⟨_,ob,xs,z⟩ | ⟨rfl,z⟩
     ·exact .inl (un.keep b o e q (by intro z;exact absurd (show b∈([]:List Addr) from z) (by simp)) (by simp))
     ·have z2:=un.frzs b ob _ z
      obtain ⟨e1,_⟩:=hok b _ z
      obtain ⟨e2,_⟩:=hok' b _ z2
      rw [e] at e1;cases e1
      exact .inl e2
     ·obtain ⟨more,z2⟩:=un.tbls b _ z
      have e2:s'.heap.get? b=some _:=hok' b _ z2
      exact .inr ⟨rfl,_,e2⟩
    refine ⟨rfl,⟨λb o e=>?_,λb o e=>?_⟩,os,bare⟩
    ·rcases all b o e with q | ⟨rfl,ps,q⟩
     ·exact .inl q
     ·rw [hT] at e;cases e
      exact .inr (.inl ⟨isT,rfl,#[],ps,rfl,by rw [Array.empty_append];exact q⟩)
    ·rcases all b o e with q | ⟨rfl,ps,q⟩
     ·exact ⟨_,q⟩
     ·exact ⟨_,q⟩
 cases hk:K.lookup a with
 | some o=>
  have e:=KX a o hk
  rw [ha] at e
  cases e
  refine core (λb=>if b=T then some (.tbl #[]) else none) (λb=>?_) (if_pos rfl) (.inr ⟨_,vs.toArray,_,hk,rfl,rfl,rfl,by rw [zM,lenV];exact hl,by simpa using rv⟩) (λb u z=>?_) λz=>absurd (if_neg naT) z
  ·by_cases hb:b=T
   ·exact .inr (.inr ⟨hb,if_pos hb⟩)
   ·exact .inl (if_neg hb)
  ·by_cases hb:b=T
   ·have z':=(if_pos hb).symm.trans z
    cases z'
    subst hb
    exact hT
   ·have z':=(if_neg hb).symm.trans z
    cases z'
 | none=>
  have at1:(λb=>if b=T then some (HO.tbl #[]) else if b=a then some (.frz { cls:=.type "list", data:=.seq vs.toArray } (.lst (ns.map V.int))) else none) a=some (.frz { cls:=.type "list", data:=.seq vs.toArray } (.lst (ns.map V.int))):=(if_neg naT).trans (if_pos rfl)
  refine core (λb=>if b=T then some (.tbl #[]) else if b=a then some (.frz { cls:=.type "list", data:=.seq vs.toArray } (.lst (ns.map V.int))) else none) (λb=>?_) (if_pos rfl) (.inl (.inr ⟨{ cls:=.type "list", data:=.seq vs.toArray },at1⟩)) (λb u z=>?_) λ_=>hk
  ·by_cases hb:b=T
   ·exact .inr (.inr ⟨hb,if_pos hb⟩)
   ·by_cases hb':b=a
    ·exact .inr (.inl ⟨hb',_,_,(if_neg hb).trans (if_pos hb')⟩)
    ·exact .inl ((if_neg hb).trans (if_neg hb'))
  ·by_cases hb:b=T
   ·have z':=(if_pos hb).symm.trans z
    cases z'
    subst hb
    exact hT
   ·by_cases hb':b=a
    ·have z':=((if_neg hb).trans (if_pos hb')).symm.trans z
     cases z'
     subst hb'
     exact ⟨ha,by rw [zA];exact hl,vs,_,rv,ha⟩
    ·have z':=((if_neg hb).trans (if_neg hb')).symm.trans z
     cases z'
theorem walk_ofT {l:PySem.W.OpenLaw}{n k:Nat}{q:Program}{loose:List Str}{XP:(Str->Option Value)->Heap->Prop}{YP:World->Heap->Prop}{d:DefRec}{K:Params->PySem.W.Frag}{CX:World->CXT}{sp:World->Sp}{x:Str}{T:Addr}
  (hn:l.most=some n) (hn2:n<=sizeLine) (hdf:d.params.defaults=[]) (hr:Room k callerA)
  (hY:∀ (w:World) (h:Heap),YP w h->(K w.params).In h/\h.get? T=some (tabObj #[])) (nt:∀ w:World,noTabs (K w.params)=true)
  (F:∀ (w:World) (mg:Str->Option Value) (fa:Addr) (h:Heap),(K w.params).In h->h.Ns mainGlobals mg->mg d.name=some (.ref fa) ->
   ∃ fd:FuncData,(∃ c,codeHdIn (K w.params) c T=true)/\(∀ (s:Shared) (u:Value),BindsTo s fd ⟨[u],[]⟩ [(x,u)]) /\
    ∀ base:Heap,(K w.params).In base->base.Ns mainGlobals mg->BmAt mg base->FnOk l.prog w (K w.params) mg base (CX w) k fa fd [x] (sp w))
  (hsp:∀ (w:World) (H:Hp) (a:Addr) (ns:List Int),ns.length<=n->H T=some (.tbl #[])->SqL (K w.params) H a (ns.map V.int)->sp w [.ref a] H (λv _=>v=.bl true) λ_ _ _=>False)
  (hCX:∀ (w:World) (H:Hp) (s:Shared) (e:Value) (s':Shared),CX w [] H s (λ_ _ _=>False) e s'->False) :
  PySem.W.WalkO q loose XP YP l.row.toRowW d [] (λf vs=>PySem.call f vs):=by
 refine Att.attach_call hn hdf λw s₀ s₁ mg mb fa o pm cd doc a vs ns G Y ho hd hcd hmg hobj hints hlen hg=>?_
 obtain ⟨KX,tX⟩:=hY w _ Y
 obtain ⟨fd,⟨c,hC⟩,hb,hF⟩:=F w mg fa _ KX G.T.g hmg
 exact law_callT KX G.T.g G.T.b G.T.builtins G.T.nolimit hg tX hC (nt w) G.T.bmain hobj hints (z8 hlen hn2) hr hF hb (λH hO hS=>hsp w H a ns hlen hO hS) λH e s'=>hCX w H s₁ e s'
end L2
namespace Sm
open PySem L2 SmSort
def whenOf (ms:List M4) (j:Int):Int:=((ms[j.toNat]?).map (·.t)).getD 0
def whens (ms:List M4) (k:Nat):List Int:=(numsTo ms k ms.length).map (whenOf ms)
section
variable {n k w:Nat}{ms:List M4}{day:Int}
end
def nextOf (ts:List (Int×Int)) (b:Int) (k:Nat):Int:=match ts[k + 1]? with
 | some q=>q.1
 | none=>b
end Sm
namespace Sm
open PySem L2 SmSort
def lamQ:Str:=(("made_book" : Str) ++ ".<locals>.") ++ "<lambda>"
def spLawT (K:PySem.W.Frag) (T:Addr) (lp:Pos):Sp:=λvs H Q _=>∃ (a:Addr) (ns:List Int),vs=[.ref a]/\SqL K H a (ns.map V.int)/\ns.length<=63/\MT T lp lamQ H/\∀ H',Q (.bl true) H'
def M4.norm (r:M4):M4:=⟨min r.lo r.hi,max r.lo r.hi,r.t,r.m⟩
def M4.ints (r:M4):List Int:=[r.lo,r.hi,r.t,r.m]
structure Raw (w:Int) (ms:List M4):Prop where
 few:ms.length<=60
 each:∀ r∈ms,0<=r.lo/\r.lo < w/\0<=r.hi/\r.hi < w/\r.lo≠r.hi/\1<=r.t/\r.t<=1000000000/\1<=r.m/\r.m<=99
 pw:ms.Pairwise λa b=>a.t=b.t->apart a b
theorem apart.symm {a b:M4} (h:apart a b):apart b a:=⟨h.1.symm,h.2.2.1.symm,h.2.1.symm,h.2.2.2.symm⟩
theorem apart.norm {a b:M4} (h:apart a b):apart a.norm b.norm:=by
 obtain ⟨h1,h2,h3,h4⟩:=h
 unfold apart M4.norm
 dsimp only
 refine ⟨?_,?_,?_,?_⟩ <;> omega
theorem Raw.loose {w:Int}{ms:List M4} (g:Raw w ms):Loose w (ms.map M4.norm):=by
 refine ⟨by rw [zA];exact g.few,λr hr=>?_,yL.mpr (g.pw.imp λh e=>(h e).norm)⟩
 obtain ⟨x,hx,rfl⟩:=zQ.mp hr
 obtain ⟨h1,h2,h3,h4,h5,h6,h7,h8,h9⟩:=g.each x hx
 unfold M4.norm
 dsimp only
 exact ⟨by omega,by omega,by omega,h6,h7,h8,h9⟩
theorem Good.raw {w:Int}{ms:List M4} (g:Good w ms):Raw w ms:=by
 refine ⟨g.few,λr hr=>?_,g.loose.pw⟩
 obtain ⟨h1,h2,h3,h4,h5,h6,h7⟩:=g.each r hr
 exact ⟨h1,by omega,by omega,h3,by omega,h4,h5,h6,h7⟩
theorem Good.norm {w:Int}{ms:List M4} (g:Good w ms):ms.map M4.norm=ms:=by
 conv=>rhs;rw [<-List.map_id ms]
 refine yR λr hr=>?_
 obtain ⟨h1,h2,h3,h4,h5,h6,h7⟩:=g.each r hr
 have e1:min r.lo r.hi=r.lo:=by omega
 have e2:max r.lo r.hi=r.hi:=by omega
 unfold M4.norm
 rw [e1,e2];rfl
theorem Good.eq {w w':Int}{ms ns:List M4} (g:Good w ms) (h:Good w' ns) (p:ms.Perm ns):ms=ns:=by
 refine List.Perm.eq_of_pairwise (le:=λa b=>a.t < b.t\/(a.t=b.t/\a.lo < b.lo/\apart a b)) (λa b _ _ x y=>?_) g.order h.order p
 rcases x with x | x <;> rcases y with y | y <;> omega
def keyF (l:List Int):List Int:=[l.getD 2 0,l.getD 0 0]
theorem keyF_ne (l:List Int) (_:l.length=4):keyF l≠[]:=by intro h;cases h
theorem lx2 {a b c d:Int} (h:lx [a,b] [c,d]=false):c < a\/(c=a/\d<=b):=by
 by_cases e:a=c
 ·subst e
  by_cases e2:b=d
  ·subst e2;exact .inr ⟨rfl,zq _⟩
  ·simp [lx,e2] at h
   exact .inr ⟨rfl,h⟩
 ·simp [lx,e] at h
  omega
theorem keyed_back {fs:List (Addr×M4)}{qs:List (Addr×List Int)} (p:qs.Perm (fs.map λa=>(a.1,a.2.ints))) (s:qs.Pairwise λa b=>lx (keyF b.2) (keyF a.2)=false) :
  ∃ rs:List (Addr×M4),rs.Perm fs/\(rs.Pairwise λa b=>a.2.t < b.2.t\/(a.2.t=b.2.t/\a.2.lo<=b.2.lo))/\qs=rs.map λa=>(a.1,a.2.ints):=by
 have back:∀ x∈qs,((x.1,(⟨x.2.getD 0 0,x.2.getD 1 0,x.2.getD 2 0,x.2.getD 3 0⟩:M4).ints):Addr×List Int)=x:=λx hx=>by
  obtain ⟨y,hy,rfl⟩:=zQ.mp (p.mem_iff.mp hx)
  rfl
 have e:qs=(qs.map λx:Addr×List Int=>((x.1,(⟨x.2.getD 0 0,x.2.getD 1 0,x.2.getD 2 0,x.2.getD 3 0⟩:M4)):Addr×M4)).map λa=>(a.1,a.2.ints):=by
  rw [yA]
  conv=>lhs;rw [<-List.map_id qs]
  exact yR λx hx=>(back x hx).symm
 refine ⟨qs.map λx:Addr×List Int=>((x.1,(⟨x.2.getD 0 0,x.2.getD 1 0,x.2.getD 2 0,x.2.getD 3 0⟩:M4)):Addr×M4),?_,?_,e⟩
 ·have:=p.map λx:Addr×List Int=>((x.1,(⟨x.2.getD 0 0,x.2.getD 1 0,x.2.getD 2 0,x.2.getD 3 0⟩:M4)):Addr×M4)
  rw [yA] at this
  refine this.trans ?_
  have e2:(fs.map ((λx:Addr×List Int=>((x.1,(⟨x.2.getD 0 0,x.2.getD 1 0,x.2.getD 2 0,x.2.getD 3 0⟩:M4)):Addr×M4)) ∘ λa:Addr×M4=>(a.1,a.2.ints)))=fs:=by
   conv=>rhs;rw [<-List.map_id fs]
   exact yR λ_ _=>rfl
  rw [e2]
 ·refine yL.mpr (s.imp λ{a b} h=>?_)
  dsimp only
  exact lx2 h
theorem Loose.good2 {w:Int}{fs qs:List (Addr×M4)} (g:Loose w (fs.map (·.2))) (p:qs.Perm fs) (s:qs.Pairwise λa b=>a.2.t < b.2.t\/(a.2.t=b.2.t/\a.2.lo<=b.2.lo)):Good w (qs.map (·.2)):=by
 have pm:=p.map (·.2)
 refine ⟨by rw [pm.length_eq];exact g.few,λr hr=>g.each r (pm.mem_iff.mp hr),?_⟩
 have ap:(qs.map (·.2)).Pairwise λa b=>a.t=b.t->apart a b:=(List.Perm.pairwise_iff (λ{x y} h e=>(h e.symm).symm) pm).mpr g.pw
 refine yL.mpr ((s.and (yL.mp ap)).imp ?_)
 rintro a b ⟨h | ⟨h1,h2⟩,k⟩
 ·exact .inl h
 ·have:=k h1
  exact .inr ⟨h1,by have:=this.1;omega,this⟩
def spAreRooms:Sp:=λvs H Q _=>∃ p rooms,vs=[.ref p]/\H p=some (.lst (List.map V.int rooms))/\1<=rooms.length/\rooms.length<=12/\(∀ r∈rooms,(0:Int)<=r/\r<=99)/\∀ H',Same H H'->Q (.bl true) H'
def spIsMeet:Sp:=λvs H Q _=>∃ w t,∃ r:M4,vs=[.int w,.ref t]/\H t=some (.tup r.vs)/\(0<=r.lo/\r.lo < w/\0<=r.hi/\r.hi < w/\r.lo≠r.hi/\1<=r.t/\r.t<=1000000000/\1<=r.m/\r.m<=99)/\Q (.bl true) H
def spTwice:Sp:=λvs H Q _=>∃ l fs w,vs=[.ref l]/\ListAt H l fs/\Raw w (fs.map (·.2))/\∀ H',Same H H'->Q (.bl false) H'
def spLsrF:Sp:=λvs H Q _=>∃ t,∃ r:M4,vs=[.ref t]/\H t=some (.tup r.vs)/\∀ t' H',Same H H'->H' t'=some (.tup r.norm.vs)->Q (.ref t') H'
def spMade (T:Addr) (lp:Pos):Sp:=λvs H Q _=>∃ pr pm rooms fs,vs=[.ref pr,.ref pm]/\H pr=some (.lst (List.map V.int rooms))/\1<=rooms.length/\rooms.length<=12/\(∀ r∈rooms,(0:Int)<=r/\r<=99)/\ListAt H pm fs/\Raw rooms.length (fs.map (·.2))/\MT T lp lamQ H /\
 ∀ b tr tm ps H',But T H H'->MT T lp lamQ H'->BookAt H' b rooms tr tm ps->Good rooms.length (ps.map (·.2))->(ps.map (·.2)).Perm (fs.map λa=>a.2.norm)->Q (.ref b) H'
end Sm
namespace L2
open PySem
theorem MT.same {P:Addr}{pos:Pos}{qual:Str}{H H':Hp} (m:MT P pos qual H) (s:Same H H'):MT P pos qual H':=by
 rcases m with m | ⟨c,m,m2⟩
 ·exact .inl (s _ _ m)
 ·exact .inr ⟨c,s _ _ m,s _ _ m2⟩
end L2
namespace Sm
open PySem L2 SmSort
theorem lam_key {K:PySem.W.Frag}{H:Hp}{a:Addr}{r:List Int} (h:H a=some (.tup (r.map V.int))) (ho:r.length=4) :
  ∃ x,SqT K H a x/\∃ y,atI x 2=some y/\∃ x,SqT K H a x/\∃ z,atI x 0=some z/\2<=sizeLine/\∀ p:Addr,H p=none->Same H (upd H p (HO.tup [y,z]))/\upd H p (HO.tup [y,z]) p=some (HO.tup (List.map V.int (keyF r))):=
 match r,ho with
 | [_,_,_,_],_=>⟨_,SqT.of h,_,rfl,_,SqT.of h,_,rfl,by rw [sizeLine_eq];decide,λp hp=>⟨xa hp,xW⟩⟩
end Sm
namespace L2
open PySem
theorem MT.put {P l:Addr}{pos:Pos}{qual:Str}{H:Hp}{xs:List V}{o:HO} (m:MT P pos qual H) (e:H l=some (.lst xs)):MT P pos qual (upd H l o):=by
 rcases m with m | ⟨c,m,m2⟩
 ·exact .inl (by rw [xb (ne_of m e (by intro z;cases z))];exact m)
 ·exact .inr ⟨c,by rw [xb (ne_of m e (by intro z;cases z))];exact m,by rw [xb (ne_of m2 e (by intro z;cases z))];exact m2⟩
end L2
namespace Sm
open PySem L2 SmSort
theorem Good.sub {w:Int}{ms ns:List M4} (g:Good w ms) (h:ns.Sublist ms):Good w ns:=⟨z8 h.length_le g.few,λr hr=>g.each r (h.subset hr),g.order.sublist h⟩
theorem MT.tups' {T:Addr}{lp:Pos}{q:Str}{H H':Hp} (m:MT T lp q H) (b:But T H H'):Tups H H':=λx u e=>b x _ (λz=>by
 rcases m with m | ⟨_,m,_⟩ <;> (rw [z,m] at e;cases e)) e
theorem MT.keep {T:Addr}{lp:Pos}{q:Str}{H H':Hp} (m:MT T lp q H) (b:But T H H') {x:Addr}{u:HO} (e:H x=some u) (n:∀ ys,u≠.tbl ys):H' x=some u:=b x u (λz=>by
 rcases m with m | ⟨_,m,_⟩ <;> (rw [z,m] at e;cases e;exact n _ rfl)) e
theorem MT.seq {T:Addr}{lp:Pos}{q:Str}{K:PySem.W.Frag}{H H':Hp}{a:Addr}{xs:List V} (m:MT T lp q H) (b:But T H H') (h:SqL K H a xs):SqL K H' a xs:=by
 rcases h with (h | ⟨o,h⟩) | h
 ·exact .inl (.inl (MT.keep m b h (by intro ys z;cases z)))
 ·exact .inl (.inr ⟨o,MT.keep m b h (by intro ys z;cases z)⟩)
 ·exact .inr h
end Sm
namespace L2
open PySem PySem.Spec PyProof.Rows
section
variable {K:PySem.W.Frag}{a:Addr}{xs:List V}{n:Nat}{caps:List Nat}{g:TG}{tc:TT}{te:TE}{σ:St}{H:Hp}{Qf:Addr->Hp->List V->Prop}
theorem comp_enumL (Pv:Nat->St->List V->Hp->Prop) (h0:Pv 0 (tau0 n caps σ) [] H) (hn:xs.length<=1000) (hl:∀ i τ acc H,Pv i τ acc H->acc.length<=i/\SqL K H a xs)
  (hs:∀ i x q τ acc H (C:St->List V->Hp->Prop),xs[i]?=some x->H q=none->Pv i τ acc H->(∀ τ acc H,Pv (i + 1) τ acc H->C τ acc H)->g (.ref q) τ (upd H q (.tup [.int i,x])) fun τ2 H2=>tc τ2 H2 λb H3=>if b=true then te τ2 H3 λy H4=>C τ2 (acc++[y]) H4 else C τ2 acc H3)
  (hd:∀ τ acc H,Pv xs.length τ acc H->∀ p,H p=none->Qf p H acc) :
  ∃ W:Nat->Nat->St->List V->Hp->Prop,(∃ m,W 0 m (tau0 n caps σ) [] H)/\∀ i m τ acc H,W i m τ acc H ->
   ((IteL K a).stop i H/\acc.length<=sizeLine/\∀ p,H p=none->Qf p H acc) \/
   ((IteL K a).go i H/\acc.length < sizeLine/\∀ x H',(IteL K a).yld i H x H'->g x τ H' fun τ2 H2=>tc τ2 H2 λb H3=>if b=true then te τ2 H3 λy H4=>∃ m',m' < m/\W (i + 1) m' τ2 (acc++[y]) H4 else ∃ m',m' < m/\W (i + 1) m' τ2 acc H3):=
 comp_of (J:=IteL K a) Pv xs.length h0 hn (λi τ acc H p=>(hl i τ acc H p).1) (λi τ acc H hi p=>⟨xs,xs[i],(hl i τ acc H p).2,by simp [hi]⟩) (fun τ acc H p=>⟨xs,(hl _ τ acc H p).2,zD _⟩)
  (λi τ acc H C hi p c x H' y=>by obtain ⟨q,x',hq,e1,e2,y⟩:=y;subst e1;subst e2;exact hs i x' q τ acc _ C (y xs (hl i τ acc _ p).2) hq p c) hd
end
end L2
namespace Sm
open PySem L2 SmSort
abbrev Mk:=Nat->Nat
end Sm
namespace Sm
open PySem L2 SmSort
def spWithout (T:Addr) (lp:Pos):Sp:=λvs H Q _=>∃ b,∃ n:Nat,∃ rooms tr tm ps,vs=[.ref b,.int (n:Int)]/\BookAt H b rooms tr tm ps/\n < ps.length/\1<=rooms.length/\rooms.length<=12/\(∀ r∈rooms,(0:Int)<=r/\r<=99)/\Good rooms.length (ps.map (·.2))/\MT T lp lamQ H /\
 ∀ b' tr' tm' ps' H',But T H H'->MT T lp lamQ H'->BookAt H' b' rooms tr' tm' ps'->ps'.map (·.2)=(ps.map (·.2)).eraseIdx n->Q (.ref b') H'
def spNeedM:Sp:=λvs H Q _=>∃ b,∃ n:Nat,∃ rooms tr tm ps,vs=[.ref b,.int (n:Int)]/\BookAt H b rooms tr tm ps/\n < ps.length/\Q .non H
structure L4 where
 s:Nat
 w:Nat
 a:Int
 z:Int
def LtAt (H:Hp) (n:Nat) (x:Addr×L4):Prop:=LetAt H x.1 n x.2.s x.2.w x.2.a x.2.z
def LetsAt (H:Hp) (l:Addr) (n:Nat) (ls:List (Addr×L4)):Prop:=H l=some (.lst (ls.map λx=>V.ref x.1))/\∀ x∈ls,LtAt H n x
theorem LtAt.tups {H H':Hp}{n:Nat}{x:Addr×L4} (h:LtAt H n x) (t:Tups H H'):LtAt H' n x:=⟨t _ _ h.1,h.2⟩
def comesB (ms:List M4) (x:L4):Bool:=upto (fwd ms (lone x.s x.a) x.w) x.z
def lostB (ms:List M4) (n:Nat) (x:L4):Bool:=comesB ms x && !comesB (ms.eraseIdx n) x
def pick (f:L4->Bool) (ls:List L4):Nat->List Int
 | 0=>[]
 | i + 1=>pick f ls i++(match ls[i]? with | some x=>if f x then [(i:Int)] else [] | none=>[])
theorem pick_len (f:L4->Bool) (ls:List L4):∀ i,(pick f ls i).length<=i
 | 0=>zD _
 | i + 1=>by
  have:=pick_len f ls i
  unfold pick
  rw [zE]
  cases ls[i]? with
  | none=>show _ + 0<=_;omega
  | some x=>
   dsimp only
   split
   ·show _ + 1<=_;omega
   ·show _ + 0<=_;omega
theorem pick_yes {f:L4->Bool}{ls:List L4}{i:Nat}{x:L4} (h:ls[i]?=some x) (e:f x=true):pick f ls (i + 1)=pick f ls i++[(i:Int)]:=by
 conv=>lhs;unfold pick
 rw [h];dsimp only;rw [if_pos e]
theorem pick_no {f:L4->Bool}{ls:List L4}{i:Nat}{x:L4} (h:ls[i]?=some x) (e:f x=false):pick f ls (i + 1)=pick f ls i:=by
 conv=>lhs;unfold pick
 rw [h];dsimp only;rw [if_neg (by rw [e];exact zJ),zn]
def spIsLost:Sp:=λvs H Q _=>∃ b c x rooms tr tm ps tr' tm' ps' n,vs=[.ref b,.ref c,.ref x.1]/\BookAt H b rooms tr tm ps/\BookAt H c rooms tr' tm' ps'/\rooms.length<=1000/\Good rooms.length (ps.map (·.2))/\Good rooms.length (ps'.map (·.2))/\LtAt H rooms.length x/\ps'.map (·.2)=(ps.map (·.2)).eraseIdx n /\
 ∀ H',Same H H'->Q (.bl (lostB (ps.map (·.2)) n x.2)) H'
def spLost (T:Addr) (lp:Pos):Sp:=λvs H Q _=>∃ b l,∃ n:Nat,∃ rooms tr tm ps ls,vs=[.ref b,.ref l,.int (n:Int)]/\BookAt H b rooms tr tm ps/\n < ps.length/\1<=rooms.length/\rooms.length<=12/\(∀ r∈rooms,(0:Int)<=r/\r<=99)/\Good rooms.length (ps.map (·.2))/\LetsAt H l rooms.length ls/\ls.length<=100/\MT T lp lamQ H /\
 ∀ lf H',But T H H'->MT T lp lamQ H'->H lf=none->H' lf=some (.lst (List.map V.int (pick (lostB (ps.map (·.2)) n) (ls.map (·.2)) ls.length)))->Q (.ref lf) H'
theorem erase_map {α β:Type} (f:α->β) (l:List α) (n:Nat):(l.eraseIdx n).map f=(l.map f).eraseIdx n:=by
 rw [List.eraseIdx_eq_take_drop_succ,List.eraseIdx_eq_take_drop_succ,zK,List.map_take,List.map_drop]
theorem erase_take_snoc {α:Type}{l:List α}{i n:Nat}{r:α} (h:l[i]?=some r) (e:i≠n):(l.take (i + 1)).eraseIdx n=(l.take i).eraseIdx n++[r]:=by
 have hi:i < l.length:=(zB.mp h).1
 rw [take_snoc h,List.eraseIdx_append]
 split
 ·rfl
 ·rename_i hn
  rw [zX] at hn
  have:n - (l.take i).length≠0:=by rw [zX];omega
  rw [yC (by show 1<=_;omega),yC (by rw [zX];omega)]
theorem erase_take_at {α:Type}{l:List α}{i:Nat}{r:α} (h:l[i]?=some r):(l.take (i + 1)).eraseIdx i=(l.take i).eraseIdx i:=by
 have hi:i < l.length:=(zB.mp h).1
 rw [take_snoc h,List.eraseIdx_append_of_length_le (by rw [zX];omega)]
 rw [zX,show i - min i l.length=0 by omega,yC (l:=l.take i) (by rw [zX];omega)]
 simp
end Sm
namespace Sm
open PySem L2 SmSort
theorem LetsAt.same {H H':Hp}{l:Addr}{n:Nat}{ls:List (Addr×L4)} (h:LetsAt H l n ls) (s:Same H H'):LetsAt H' l n ls:=⟨s _ _ h.1,λx hx=>(h.2 x hx).tups (Tups.same s)⟩
end Sm
namespace L2
open PySem PySem.Spec PyProof.Rows
theorem op_inD {X:Cx} (hu:X.A.units + 64 < cLine):OpR X (compareOp .In) (λx y H Q=>∃ a o,y=.ref a/\DGet H a x o/\Q (.bl o.isSome) H):=by
 intro pins s σ H x y v u Q I rx ry h
 obtain ⟨a,o,rfl,g,q⟩:=h
 cases ry
 exact d_in (by omega) I g rx λs' I'=>⟨.bl _,H,I',rfl,q⟩
theorem op_notInD {X:Cx} (hu:X.A.units + 64 < cLine):OpR X (compareOp .NotIn) (λx y H Q=>∃ a o,y=.ref a/\DGet H a x o/\Q (.bl (!o.isSome)) H):=by
 intro pins s σ H x y v u Q I rx ry h
 obtain ⟨a,o,rfl,g,q⟩:=h
 cases ry
 exact d_notIn (by omega) I g rx λs' I'=>⟨.bl _,H,I',rfl,q⟩
end L2
namespace Sm
open PySem L2 SmSort
def kvV (kv:List (Int×Int)):List (Key×V):=kv.map λp=>(Sum.inl p.1,V.int p.2)
theorem valV_any {kv:List (Int×Int)}{w:Int}:(valV (kvV kv) (Sum.inl w)).isSome=kv.any λp=>decide (p.1=w):=by
 unfold valV kvV
 rw [yw,Option.isSome_map,List.find?_isSome,List.any_eq_true]
 constructor
 ·rintro ⟨p,hp,e⟩
  obtain ⟨q,hq,rfl⟩:=zQ.mp hp
  have e1:=of_decide_eq_true e
  exact ⟨q,hq,decide_eq_true (Sum.inl.inj e1)⟩
 ·rintro ⟨q,hq,e⟩
  exact ⟨_,zQ.mpr ⟨q,hq,rfl⟩,decide_eq_true (congrArg Sum.inl (of_decide_eq_true e))⟩
theorem Same.but {H H':Hp}{x:Addr} (s:Same H H'):But x H H':=λb u _ e=>s b u e
end Sm
namespace Sm
open PySem L2 SmSort
section
variable {C:Addr}{H H':Hp}{t:Tr}{rooms:List Int}{tr tm:Addr}{ps:List (Addr×M4)} {n0:Nat}
end
theorem But.free {x c:Addr}{H H':Hp} (b:But x H H') (n:c≠x) (h:H' c=none):H c=none:=by
 cases z:H c with
 | none=>rfl
 | some u=>have:=b _ _ n z;rw [h] at this;cases this
end Sm
namespace Sm
open PySem L2 SmSort
theorem ne_intsL {K:PySem.W.Frag}{H:Hp}{l d:Addr}{ns:List Int}{Q:VK}{neg:Bool} (hl:H l=some (.lst (ns.map V.int))) (hd:H d=some (.lst (ns.map V.int))) (q:Q (.bl (if neg=true then !true else true)) H):rEqv K neg (.ref l) (.ref d) H Q:=by
 refine ⟨0,l,d,_,_,λ_=>true,true,by decide,rfl,rfl,.inl ⟨SqL.of hl,SqL.of hd⟩,by simp,λi x y hx hy=>?_,q⟩
 rw [hx] at hy;cases hy
 obtain ⟨r,hr,rfl⟩:=wL hx
 exact .inr ⟨rfl,rfl,by rw [eqV_int,decide_eq_true rfl]⟩
section
variable {C:Addr} {H0 H H':Hp}{t u:Tr}{rooms:List Int}{tr tm:Addr}{ps:List (Addr×M4)} {n0 n1:Nat}
end
end Sm
namespace Sm
open PySem L2 SmSort
theorem nodup_len:∀ {xs ys:List Int},xs.Nodup->(∀ x∈xs,x∈ys)->xs.length<=ys.length
 | [],_,_,_=>zc _
 | x::xs,ys,nd,h=>by
  have nd':=ze.mp nd
  have hm:=h x (.head _)
  have:=nodup_len (xs:=xs) (ys:=ys.erase x) nd'.2 λz hz=>(List.mem_erase_of_ne (λe=>nd'.1 (by rw [<-e];exact hz))).mpr (h z (.tail _ hz))
  rw [List.length_erase_of_mem hm] at this
  have:0 < ys.length:=List.length_pos_of_mem hm
  show xs.length + 1<=_
  omega
theorem map_some {α β:Type}{f:α->β}{o o':Option α}{a:α} (e:o.map f=o'.map f) (h:o'=some a):∃ b,o=some b/\f b=f a:=by
 subst h
 cases o with
 | none=>cases e
 | some b=>exact ⟨b,rfl,Option.some.inj e⟩
end Sm
namespace Sm
open PySem L2 SmSort
theorem walk_comes47 {n:Nat}{ms:List M4} (g:Good n ms) {s w:Nat}{a e:Int}{cs:List Int} (wk:walkM ms s a (-1) cs=some (w,e)):upto (fwd ms (lone s a) w) e=true:=by
 have er:=early_fwd (s:=s) (x:=a) g
 exact walkM_low g (early_closed g) _ s a (-1) (upto_iff.mpr ⟨a,er.self,zq _⟩) _ _ wk
end Sm
namespace Sm
open PySem L2 SmSort
open Classical in
noncomputable def cut (M:Addr->Prop) (H:Hp):Hp:=λc=>if M c then none else H c
end Sm
namespace L2
open PySem PySem.Spec PyProof.Rows
section
variable {X:Cx}{pos:Pos}
def gTupL (K:PySem.W.Frag) (n:Nat) (t:TGs):TG:=λv σ H Q=>∃ a xs,v=.ref a/\SqL K H a xs/\xs.length=n/\t xs σ H Q
theorem pg_tupL {es:List Expr}{k:Nat}{t:TGs}{n:Nat} (hc:X.calm=true) (h:PGs X es t)
  (hn:(assignEach es X.env).length=n:=by rfl) (hst:(assignEach es X.env).findIdx? (·.1)=none:=by rfl):PG X (.Tuple es k pos) (gTupL X.K n t):=by
 intro pins s σ H v u Q I r hw
 obtain ⟨a,xs,e1,hq,hl,hw⟩:=hw
 subst e1
 cases r
 obtain ⟨its,rv,⟨o,m,ho,hcl,hd,hs⟩,hz⟩:=I.list hq
 have hl':s.heap.IsList a its.toArray:=⟨o,ho,hcl,m,hs⟩
 rw [assign_Tuple]
 refine wpAny_bind (wpAny_standAt ?_)
 unfold unpack
 rw [hst,show (assignEach es X.env).length=its.toArray.size by simp [hn,<- hl,rv.length]]
 refine wpAny_bind (wpAny_holding (PySem.W.kun_itemsOf (I.ok.hd hc) hl' λh' hx=>?_))
 have I1:Inv X pins σ H { s with heap:=h' }:=I.kept (t':=s.toks) λb o e=>hx b o (zU (Heap.lt_size e)) e
 exact h pins _ σ H xs _ Q I1 (by simpa using rv) hw
end
end L2
namespace Sm
open PySem L2 SmSort
end Sm
namespace Sm
open PySem L2 SmSort
end Sm
namespace Sm
open PySem L2 SmSort
section
variable {C:Addr} {H0 H:Hp}{t u:Tr}{rooms:List Int}{tr tm:Addr}{ps:List (Addr×M4)} {n0 n1:Nat}
end
end Sm
namespace Sm
open PySem L2 SmSort
end Sm
namespace L2
open PySem PySem.Spec PyProof.Rows
section
variable {X:Cx}
end
end L2
namespace Sm
open PySem L2 SmSort
section
variable {CA CH CN:Addr}{H:Hp}{r:Addr}{n:Nat}{σ:St}{i:Nat}{Q:VK} {E1 E2 E3:XK}
end
section
variable {rooms:List Int}{ms:List M4}{d:RuleD}{m j:Nat}{M:M4}{L:L4}{s:RS}{t:Tr}{ts:List (Addr×List (Option Int))}{ys:List (Addr×Dd)}{x:Addr×List (Option Int)}{g:Int}
end
def spNever:Sp:=λ_ _ _ _=>False
end Sm
namespace Sm
open PySem L2 SmSort
def flip (a:Nat):Nat:=if a % 2=0 then a + 1 else a - 1
theorem or_one (n:Nat):n ||| 1=if n % 2=0 then n + 1 else n:=by
 have e:∀ k:Nat,2 * k ||| 1=2 * k + 1:=λk=>by
  have:=Nat.two_pow_add_eq_or_of_lt (i:=1) (b:=1) (by decide) k
  simpa using this.symm
 split
 ·rename_i h
  have:n=2 * (n / 2):=by omega
  rw [this,e]
 ·rename_i h
  have:n=2 * (n / 2) + 1:=by omega
  rw [this,<- e,Nat.or_assoc,Nat.or_self]
theorem xor_one (n:Nat):Builtin.bitXor (n:Int) 1=((flip n:Nat):Int):=by
 have a1:Builtin.bitAnd (n:Int) 1=((n % 2:Nat):Int):=by
  unfold Builtin.bitAnd
  rw [decide_eq_true (by omega:(0:Int)<=(n:Int))]
  show ((n &&& 1:Nat):Int)=_
  rw [Nat.and_one_is_mod]
 have a2:Builtin.bitOr (n:Int) 1=((n ||| 1:Nat):Int):=by
  unfold Builtin.bitOr Builtin.bitAnd Builtin.bitNot
  rw [decide_eq_false (by omega:¬ (0:Int)<=-(n:Int) - 1)]
  show -(-((((-(-(n:Int) - 1) - 1).toNat ||| (-(-(1:Int) - 1) - 1).toNat:Nat):Int)) - 1) - 1=_
  rw [show (-(-(n:Int) - 1) - 1).toNat=n by omega,show (-(-(1:Int) - 1) - 1).toNat=1 by omega]
  omega
 unfold Builtin.bitXor
 rw [a1,a2,or_one]
 unfold flip
 split <;> omega
theorem flip_flip (a:Nat):flip (flip a)=a:=by unfold flip;split <;> split <;> omega
theorem flip_ne (a:Nat):flip a≠a:=by unfold flip;split <;> omega
theorem flip_lt {a m:Nat} (h:a < 2 * m):flip a < 2 * m:=by unfold flip;split <;> omega
end Sm
namespace L2
open PySem PySem.Spec PyProof.Rows
section
variable {prog:Program}{w:World}{A:Around}{E:Value->Shared->Prop}{s:Shared}
theorem hash_none {Q:Int->Shared->Prop} (h:Q 4238894112 { s with toks:=s.toks + 1 }):wpAny (model prog w) A (pyHash .none) Q E s:=by
 unfold pyHash
 have hv:[Value.none].any Value.onHeap=false:=rfl
 refine wpAny_bind ?_
 rw [cRoomFor,if_neg (by rw [hv];exact zJ)];refine wpAny_pure ?_
 refine wpAny_bind (wpAny_specialOf (typeIs_none s) F.slot_NoneType_hash.lookup ?_)
 show wpAny _ _ (if (some (Value.builtin "NoneType.__hash__") == some Value.none)=true then _ else _) Q E s
 rw [if_neg (by rw [beq_builtin_none];exact zJ)]
 refine wpAny_bind (wpAny_specialOf (typeIs_none s) F.slot_NoneType_hash.lookup ?_)
 show wpAny _ _ (callSpecialIfBoundUnlessNone? .none "__hash__" _ >>= _) Q E s
 refine wpAny_bind (wpAny_callSpecialIfBoundUnlessNone?_slot (typeIs_none s) F.slot_NoneType_hash
  (wpAny_call_entry F.slot_NoneType_hash (typeIs_none s) F.entry_NoneType_hash
   (show wpAny _ _ (do ret (<- mkInt 4238894112)) _ _ s from wpAny_ret_mkInt ?_) (F.args_NoneType_hash_1 _)))
 show wpAny _ _ (if (decide (-(2:Int) ^ 63<=4238894112) && decide ((4238894112:Int) < 2 ^ 63))=true then _ else _) Q E _
 rw [if_pos (by decide)]
 exact wpAny_pure h
end
def isO:Option Key->Value->Bool
 | none,.none=>true
 | none,_=>false
 | some k,v=>keyIs k v
theorem wv {v:Value} (h:isO none v=true):v=.none:=by
 cases v <;> first | rfl | cases h
def optKind (prog:Program) (w:World):PySem.KeyKind prog w (Option Key) where
 is:=isO
 hash:=fun | none=>4238894112 | some k=>keyH w k
 inj:=λv a b ha hb=>by
  cases a with
  | none=>
   cases wv ha
   cases b with
   | none=>rfl
   | some k=>rcases wE hb with ⟨_,_,_,e⟩ | ⟨_,_,_,e⟩ <;> cases e
  | some k=>
   cases b with
   | none=>
    cases wv hb
    rcases wE ha with ⟨_,_,_,e⟩ | ⟨_,_,_,e⟩ <;> cases e
   | some k'=>exact congrArg some ((mixKind prog w).inj v k k' ha hb)
 byValue:=λk v h=>by
  cases k with
  | none=>cases wv h;rfl
  | some k=>exact (mixKind prog w).byValue k v h
 pyHash:=λ{A E s k v Q} hv h=>by
  cases k with
  | none=>cases wv hv;exact hash_none h
  | some k=>exact (mixKind prog w).pyHash hv h
 eqBool:=λ{A E s a b u v Q} hu hv h=>by
  cases a with
  | none=>
   cases wv hu
   cases b with
   | none=>cases wv hv;exact SeqAt.EqAt.same _ _ _ _ _ h
   | some k=>
    have h':Q false s:=by simpa using h
    rcases wE hv with ⟨i,t,_,rfl⟩ | ⟨x,t,_,rfl⟩
    ·exact SeqAt.EqAt.none_int i t _ _ _ _ h'
    ·exact SeqAt.EqAt.none_str x t _ _ _ _ h'
  | some k=>
   cases b with
   | none=>
    cases wv hv
    have h':Q false s:=by simpa using h
    rcases wE hu with ⟨i,t,_,rfl⟩ | ⟨x,t,_,rfl⟩
    ·exact SeqAt.EqAt.int_none i t _ _ _ _ h'
    ·exact SeqAt.EqAt.str_none x t _ _ _ _ h'
   | some k'=>
    have e:decide (some k=some k')=decide (k=k'):=by simp
    rw [e] at h
    exact (mixKind prog w).eqBool hu hv h
 «strs»:=λk x t v h=>by
  cases k with
  | none=>cases wv h
  | some k=>exact (mixKind prog w).strs k x t v h
theorem dk_opt {P:Program}{w:World}{h:Heap}{a:Addr}{vs:List (Key×Value)} (d:h.DictOf (mixKind P w) a vs):h.MapOf (optKind P w) a (fun | none=>none | some k=>valueAt vs k):=by
 obtain ⟨o,es,ep,ho,hc,hd,hk,hf⟩:=d.mapOf
 refine ⟨o,es,ep,ho,hc,hd,λe he=>?_,λk=>?_⟩
 ·obtain ⟨k,h1,h2⟩:=hk e he
  exact ⟨some k,h1,h2⟩
 ·cases k with
  | none=>
   show (es.find? λe=>isO none e.key).map (·.val)=none
   have:(es.find? λe=>isO none e.key)=none:=by
    rw [Array.find?_eq_none]
    intro e he z
    obtain ⟨k,h1,_⟩:=hk e he
    have e1:=wv (by simpa using z)
    rw [e1] at h1
    rcases wE h1 with ⟨_,_,_,q⟩ | ⟨_,_,_,q⟩ <;> cases q
   rw [this];rfl
  | some k=>exact hf k
section
variable {X:Cx}
theorem op_notInN:OpR X (compareOp .NotIn) (λx y H Q=>∃ a kvs,x=.non/\y=.ref a/\H a=some (.dK kvs)/\Q (.bl true) H):=by
 intro pins s σ H x y v u Q I rx ry h
 obtain ⟨a,kvs,rfl,rfl,e,q⟩:=h
 cases rx;cases ry
 obtain ⟨z,hd,vs,rel,dd⟩:=dk_rd I.hok (.inl e)
 exact wpAny_notIn_of (knd:=optKind X.prog X.w) (k:=none) rfl hd (dk_opt dd) ⟨.bl _,H,I.tok _,rfl,q⟩
theorem op_notInO (hu:X.A.units + 64 < cLine):OpR X (compareOp .NotIn) (λx y H Q=>∃ a kvs o,y=.ref a/\H a=some (.dK kvs)/\x=oV o/\Q (.bl (match o with | none=>true | some i=>!(valV kvs (Sum.inl i)).isSome)) H):=by
 intro pins s σ H x y v u Q I rx ry h
 obtain ⟨a,kvs,o,rfl,e,rfl,q⟩:=h
 cases o with
 | none=>exact op_notInN pins s σ H _ _ v u Q I rx ry ⟨a,kvs,rfl,rfl,e,q⟩
 | some i=>exact op_notInD hu pins s σ H _ _ v u Q I rx ry ⟨a,_,rfl,DGet.k (k:=Sum.inl i) e,q⟩
end
end L2
namespace Sm
open PySem L2 SmSort
structure Tie where
 h:Nat
 t:Nat
 m:Int
def endsOf (ts:List Tie):List Int:=ts.flatMap λx=>[(x.t:Int),(x.h:Int)]
def arcsTo (ts:List Tie) (p:Nat):Nat->List Int
 | 0=>[]
 | i + 1=>arcsTo ts p i++(match ts[i]? with
  | some x=>(if x.h=p then [((2 * i:Nat):Int)] else [])++(if x.t=p then [((2 * i + 1:Nat):Int)] else [])
  | none=>[])
def hd (ts:List Tie) (a:Nat):Nat:=match ts[a / 2]? with
 | some x=>if a % 2=0 then x.t else x.h
 | none=>0
def tl (ts:List Tie) (a:Nat):Nat:=hd ts (flip a)
theorem endsOf_len (ts:List Tie):(endsOf ts).length=2 * ts.length:=by
 induction ts with
 | nil=>rfl
 | cons x ts ih=>
  have:endsOf (x::ts)=[(x.t:Int),(x.h:Int)]++endsOf ts:=rfl
  rw [this,zE,ih,zW (a:=x)];show 2 + _=_;omega
theorem endsO_at:∀ {ts:List Tie}{a:Nat},a < 2 * ts.length->(endsOf ts)[a]?=some (hd ts a:Int)
 | [],a,h=>by simp at h
 | x::ts,a,h=>by
  have e:endsOf (x::ts)=[(x.t:Int),(x.h:Int)]++endsOf ts:=rfl
  rw [e]
  match a with
  | 0=>rfl
  | 1=>rfl
  | a + 2=>
   have h2:a < 2 * ts.length:=by rw [zW] at h;omega
   have:([(x.t:Int),(x.h:Int)]++endsOf ts)[a + 2]?=(endsOf ts)[a]?:=rfl
   rw [this,endsO_at h2]
   unfold hd
   have e1:(a + 2) / 2=a / 2 + 1:=by omega
   have e2:(a + 2) % 2=a % 2:=by omega
   rw [e1,e2];rfl
theorem hd_even {ts:List Tie}{k:Nat}{x:Tie} (h:ts[k]?=some x):hd ts (2 * k)=x.t/\hd ts (2 * k + 1)=x.h:=by
 unfold hd
 rw [show 2 * k / 2=k by omega,show (2 * k + 1) / 2=k by omega,h]
 exact ⟨by dsimp only;rw [if_pos (by omega)],by dsimp only;rw [if_neg (by omega)]⟩
theorem tl_even {ts:List Tie}{k:Nat}{x:Tie} (h:ts[k]?=some x):tl ts (2 * k)=x.h/\tl ts (2 * k + 1)=x.t:=by
 unfold tl
 have f1:flip (2 * k)=2 * k + 1:=by unfold flip;rw [if_pos (by omega)]
 have f2:flip (2 * k + 1)=2 * k:=by unfold flip;rw [if_neg (by omega)];omega
 rw [f1,f2]
 exact ⟨(hd_even h).2,(hd_even h).1⟩
theorem arc_split {ts:List Tie}{a:Nat} (h:a < 2 * ts.length):∃ k x,ts[k]?=some x/\(a=2 * k\/a=2 * k + 1):=by
 have:a / 2 < ts.length:=by omega
 exact ⟨a / 2,_,zL this,by omega⟩
theorem arcsTo_mem {ts:List Tie}{p:Nat}:∀ {i:Nat}{z:Int},i<=ts.length->(z∈arcsTo ts p i↔∃ a:Nat,z=(a:Int)/\a < 2 * i/\tl ts a=p)
 | 0,z,_=>by
  constructor
  ·intro h;cases h
  ·rintro ⟨a,_,h,_⟩;omega
 | i + 1,z,hi=>by
  obtain ⟨x,hx⟩:∃ x,ts[i]?=some x:=⟨_,zL (by omega)⟩
  have e:arcsTo ts p (i + 1)=arcsTo ts p i++((if x.h=p then [((2 * i:Nat):Int)] else [])++(if x.t=p then [((2 * i + 1:Nat):Int)] else [])):=by
   conv=>lhs;unfold arcsTo
   rw [hx]
  obtain ⟨t1,t2⟩:=tl_even hx
  rw [e,zT,arcsTo_mem (by omega),zT]
  constructor
  ·rintro (⟨a,rfl,h1,h2⟩ | h | h)
   ·exact ⟨a,rfl,by omega,h2⟩
   ·split at h
    ·rename_i c;rw [zF.mp h];exact ⟨2 * i,rfl,by omega,by rw [t1];exact c⟩
    ·cases h
   ·split at h
    ·rename_i c;rw [zF.mp h];exact ⟨2 * i + 1,rfl,by omega,by rw [t2];exact c⟩
    ·cases h
  ·rintro ⟨a,rfl,h1,h2⟩
   by_cases c1:a < 2 * i
   ·exact .inl ⟨a,rfl,c1,h2⟩
   ·rcases (by omega:a=2 * i\/a=2 * i + 1) with rfl | rfl
    ·rw [t1] at h2
     exact .inr (.inl (by rw [if_pos h2];exact .head _))
    ·rw [t2] at h2
     exact .inr (.inr (by rw [if_pos h2];exact .head _))
def at0 (sp:List Int) (a:Nat):Int:=sp[a]?.getD 0
structure Sound (ts:List Tie) (sp:List Int):Prop where
 len:sp.length=2 * ts.length
 pos:∀ a,a < 2 * ts.length->0<=at0 sp a
 sum:∀ (k:Nat) (x:Tie),ts[k]?=some x->at0 sp (2 * k) + at0 sp (2 * k + 1)=x.m
def bump (sp:List Int) (a:Nat) (m:Int):List Int:=(sp.set a (at0 sp a - m)).set (flip a) (at0 (sp.set a (at0 sp a - m)) (flip a) + m)
theorem at_set {sp:List Int}{a b:Nat}{v:Int} (h:a < sp.length):at0 (sp.set a v) b=if b=a then v else at0 sp b:=by
 unfold at0
 rw [List.getElem?_set]
 by_cases c:a=b
 ·subst c;rw [if_pos rfl,if_pos h,if_pos rfl];rfl
 ·rw [if_neg c,if_neg (λz=>c z.symm)]
theorem bump_len {sp:List Int}{a:Nat}{m:Int}:(bump sp a m).length=sp.length:=by unfold bump;rw [xO,xO]
theorem bump_at {sp:List Int}{n a b:Nat}{m:Int} (l:sp.length=2 * n) (h:a < 2 * n):at0 (bump sp a m) b=if b=a then at0 sp a - m else if b=flip a then at0 sp (flip a) + m else at0 sp b:=by
 unfold bump
 have hf:=flip_lt h
 have ne:=flip_ne a
 rw [at_set (by rw [xO,l];exact hf),at_set (by rw [l];exact h),at_set (by rw [l];exact h),if_neg ne]
 by_cases c1:b=flip a
 ·rw [if_pos c1,if_neg (λz=>ne (by rw [<-c1,z])),if_pos c1]
 ·rw [if_neg c1,if_neg c1]
def net (ts:List Tie) (sp:List Int) (p:Nat):Nat->Int
 | 0=>0
 | i + 1=>net ts sp p i + (match ts[i]? with
  | some x=>at0 sp (2 * i + 1) * ((if x.t=p then 1 else 0) - (if x.h=p then 1 else 0))
  | none=>0)
theorem net_bump {ts:List Tie}{sp:List Int}{a p:Nat}{m:Int} (l:sp.length=2 * ts.length) (h:a < 2 * ts.length):∀ i,i<=ts.length->net ts (bump sp a m) p i=net ts sp p i + (if a / 2 < i then m * ((if hd ts a=p then 1 else 0) - (if tl ts a=p then 1 else 0)) else 0)
 | 0,_=>by show (0:Int)=0 + _;rw [if_neg (by omega)];rfl
 | i + 1,hi=>by
  obtain ⟨x,hx⟩:∃ x,ts[i]?=some x:=⟨_,zL (by omega)⟩
  have ih:=net_bump (m:=m) (p:=p) l h i (by omega)
  have e:∀ sp',net ts sp' p (i + 1)=net ts sp' p i + at0 sp' (2 * i + 1) * ((if x.t=p then 1 else 0) - (if x.h=p then 1 else 0)):=λsp'=>by
   show net ts sp' p i + (match ts[i]? with | some x=>_ | none=>_)=_
   rw [hx]
  obtain ⟨h1,h2⟩:=hd_even hx
  obtain ⟨t1,t2⟩:=tl_even hx
  rw [e,e,ih,bump_at l h]
  generalize net ts sp p i=N
  by_cases c1:2 * i + 1=a
  ·subst c1
   rw [if_neg (show ¬ (2 * i + 1) / 2 < i by omega),if_pos (show 2 * i + 1=2 * i + 1 from rfl),if_pos (show (2 * i + 1) / 2 < i + 1 by omega),h2,t2]
   generalize (if x.t=p then (1:Int) else 0)=u
   generalize (if x.h=p then (1:Int) else 0)=v
   have:m * (v - u)=- (m * (u - v)):=by rw [<-Int.mul_neg];congr 1;omega
   rw [Int.sub_mul,this];omega
  ·rw [if_neg c1]
   by_cases c2:2 * i + 1=flip a
   ·have ea:a=2 * i:=by have:=congrArg flip c2;rw [flip_flip] at this;rw [<-this];unfold flip;rw [if_neg (by omega)];omega
    subst ea
    have:flip (2 * i)=2 * i + 1:=c2.symm
    rw [if_pos c2,this,if_neg (show ¬ 2 * i / 2 < i by omega),if_pos (show 2 * i / 2 < i + 1 by omega),h1,t1,Int.add_mul]
    generalize (if x.t=p then (1:Int) else 0) - (if x.h=p then (1:Int) else 0)=u
    omega
   ·rw [if_neg c2]
    have n1:a≠2 * i:=λz=>c2 (by rw [z];unfold flip;rw [if_pos (by omega)])
    by_cases c3:a / 2 < i
    ·rw [if_pos c3,if_pos (show a / 2 < i + 1 by omega)];omega
    ·rw [if_neg c3,if_neg (show ¬ a / 2 < i + 1 by omega)];omega
theorem net_bump' {ts:List Tie}{sp:List Int}{a p:Nat}{m:Int} (l:sp.length=2 * ts.length) (h:a < 2 * ts.length):net ts (bump sp a m) p ts.length=net ts sp p ts.length + m * ((if hd ts a=p then 1 else 0) - (if tl ts a=p then 1 else 0)):=by
 rw [net_bump l h _ (zD _),if_pos (by omega)]
def bumpAll (sp:List Int) (w:List Nat) (m:Int):List Int:=w.foldl (λsp a=>bump sp a m) sp
theorem bumpAll_snoc {sp:List Int}{w:List Nat}{a:Nat}{m:Int}:bumpAll sp (w++[a]) m=bump (bumpAll sp w m) a m:=by unfold bumpAll;rw [List.foldl_append];rfl
theorem bumpAll_len {sp:List Int}{m:Int}:∀ {w:List Nat},(bumpAll sp w m).length=sp.length:=by
 intro w
 induction w generalizing sp with
 | nil=>rfl
 | cons a w ih=>show (bumpAll (bump sp a m) w m).length=_;rw [ih,bump_len]
inductive BackW (ts:List Tie) (g:Nat):List Nat->Nat->Prop where
 | nil:BackW ts g [] g
 | snoc {w:List Nat}{a:Nat}:BackW ts g w (hd ts a)->BackW ts g (w++[a]) (tl ts a)
theorem net_way {ts:List Tie}{sp:List Int}{g c p:Nat}{w:List Nat}{m:Int} (l:sp.length=2 * ts.length) (b:BackW ts g w c) (hw:∀ a∈w,a < 2 * ts.length):net ts (bumpAll sp w m) p ts.length=net ts sp p ts.length + m * ((if g=p then 1 else 0) - (if c=p then 1 else 0)):=by
 induction b with
 | nil=>show net ts sp p _=_;rw [Int.sub_self,xT,Int.add_zero]
 | @snoc w a b ih=>
  have ih:=ih λx hx=>hw x (zx _ hx)
  rw [bumpAll_snoc,net_bump' (by rw [bumpAll_len];exact l) (hw a (zP _ (.head _))),ih]
  generalize (if g=p then (1:Int) else 0)=u
  generalize (if hd ts a=p then (1:Int) else 0)=v
  generalize (if tl ts a=p then (1:Int) else 0)=z
  have:m * (u - z)=m * (u - v) + m * (v - z):=by rw [<-Int.mul_add];congr 1;omega
  rw [this];omega
theorem bump_low {sp:List Int}{n a b:Nat}{m:Int} (l:sp.length=2 * n) (h:a < 2 * n) (m0:0<=m):at0 sp b - (if b=a then m else 0)<=at0 (bump sp a m) b:=by
 rw [bump_at l h]
 by_cases c:b=a
 ·subst c;rw [if_pos rfl,if_pos rfl];exact zq _
 ·rw [if_neg c,if_neg c]
  split
  ·rename_i c2;rw [<-c2];omega
  ·omega
theorem bumpAll_low {n:Nat}{m:Int} (m0:0<=m):∀ {w:List Nat}{sp:List Int}{b:Nat},sp.length=2 * n->(∀ a∈w,a < 2 * n)->w.Nodup->at0 sp b - (if b∈w then m else 0)<=at0 (bumpAll sp w m) b
 | [],sp,b,_,_,_=>by show at0 sp b - _<=at0 sp b;rw [if_neg (by simp)];omega
 | a::w,sp,b,l,hw,nd=>by
  have nd:=ze.mp nd
  have h1:=bumpAll_low (w:=w) (sp:=bump sp a m) (b:=b) m0 (by rw [bump_len];exact l) (λx hx=>hw x (.tail _ hx)) nd.2
  have h2:=bump_low (b:=b) l (hw a (.head _)) m0
  have e:bumpAll sp (a::w) m=bumpAll (bump sp a m) w m:=rfl
  rw [e]
  by_cases c:b=a
  ·subst c
   rw [if_pos (z4 ..)]
   rw [if_pos rfl] at h2
   rw [if_neg nd.1] at h1
   omega
  ·rw [if_neg c] at h2
   by_cases d:b∈w
   ·rw [if_pos (zf _ d)];rw [if_pos d] at h1;omega
   ·rw [if_neg (by simp [c,d])];rw [if_neg d] at h1;omega
theorem bump_sum {sp:List Int}{n a k:Nat}{m:Int} (l:sp.length=2 * n) (h:a < 2 * n):at0 (bump sp a m) (2 * k) + at0 (bump sp a m) (2 * k + 1)=at0 sp (2 * k) + at0 sp (2 * k + 1):=by
 rw [bump_at l h,bump_at l h]
 have f1:flip (2 * k)=2 * k + 1:=by unfold flip;rw [if_pos (by omega)]
 have f2:flip (2 * k + 1)=2 * k:=by unfold flip;rw [if_neg (by omega)];omega
 by_cases c1:2 * k=a
 ·subst c1
  rw [if_pos rfl,if_neg (show ¬ 2 * k + 1=2 * k by omega),f1,if_pos rfl];omega
 ·by_cases c2:2 * k + 1=a
  ·subst c2
   rw [if_neg c1,f2,if_pos rfl,if_pos rfl];omega
  ·rw [if_neg c1,if_neg c2,if_neg (λz=>c2 (by rw [<-flip_flip a,<- z,f1])),if_neg (λz=>c1 (by rw [<-flip_flip a,<- z,f2]))]
theorem bumpAll_sum {n k:Nat}{m:Int}:∀ {w:List Nat}{sp:List Int},sp.length=2 * n->(∀ a∈w,a < 2 * n)->at0 (bumpAll sp w m) (2 * k) + at0 (bumpAll sp w m) (2 * k + 1)=at0 sp (2 * k) + at0 sp (2 * k + 1)
 | [],_,_,_=>rfl
 | a::w,sp,l,hw=>by
  have e:bumpAll sp (a::w) m=bumpAll (bump sp a m) w m:=rfl
  rw [e,bumpAll_sum (by rw [bump_len];exact l) (λx hx=>hw x (.tail _ hx)),bump_sum l (hw a (.head _))]
theorem Sound.way {ts:List Tie}{sp:List Int}{w:List Nat}{m:Int} (s:Sound ts sp) (m0:0<=m) (hw:∀ a∈w,a < 2 * ts.length/\m<=at0 sp a) (nd:w.Nodup):Sound ts (bumpAll sp w m):=by
 refine ⟨by rw [bumpAll_len];exact s.len,λb hb=>?_,λk x hx=>?_⟩
 ·have:=bumpAll_low (b:=b) m0 s.len (λa ha=>(hw a ha).1) nd
  by_cases c:b∈w
  ·rw [if_pos c] at this;have:=(hw b c).2;omega
  ·rw [if_neg c] at this;have:=s.pos b hb;omega
 ·rw [bumpAll_sum s.len λa ha=>(hw a ha).1];exact s.sum k x hx
def cap (ts:List Tie):Nat->Int
 | 0=>0
 | i + 1=>cap ts i + (match ts[i]? with | some x=>x.m | none=>0)
theorem net_cap {ts:List Tie}{sp:List Int} (s:Sound ts sp) (p:Nat):∀ i,i<=ts.length->net ts sp p i<=cap ts i
 | 0,_=>zq _
 | i + 1,hi=>by
  obtain ⟨x,hx⟩:∃ x,ts[i]?=some x:=⟨_,zL (by omega)⟩
  have ih:=net_cap s p i (by omega)
  show net ts sp p i + (match ts[i]? with | some x=>_ | none=>_)<=cap ts i + (match ts[i]? with | some x=>_ | none=>_)
  rw [hx]
  dsimp only
  have h1:=s.pos (2 * i) (by omega)
  have h2:=s.pos (2 * i + 1) (by omega)
  have h3:=s.sum i x hx
  generalize at0 sp (2 * i + 1)=y at h2 h3 ⊢
  have:y * ((if x.t=p then 1 else 0) - (if x.h=p then 1 else 0))<=y:=by
   split <;> split <;> simp <;> omega
  omega
structure TreeOk (ts:List Tie) (sp:List Int) (n src:Nat) (tree:List (Nat×Option Nat)):Prop where
 root:tree[0]?=some (src,none)
 nod:(tree.map (·.1)).Nodup
 ins:∀ x∈tree,x.1 < n
 arc:∀ (i:Nat) x,tree[i]?=some x->0 < i->∃ a,x.2=some a/\a < 2 * ts.length/\hd ts a=x.1/\0 < at0 sp a/\∃ j y,j < i/\tree[j]?=some y/\y.1=tl ts a
def ClosedAt (ts:List Tie) (sp:List Int) (pts:List Nat) (p:Nat):Prop:=∀ a,a < 2 * ts.length->tl ts a=p->0 < at0 sp a->hd ts a∈pts
def treeK (tree:List (Nat×Option Nat)):List (Key×V):=tree.map λx=>(Sum.inl (x.1:Int),oV (x.2.map λa=>(a:Int)))
end Sm
namespace Sm
open PySem L2 SmSort
structure SRaw (C:Addr) (H:Hp) (x dx lA lE lS:Addr) (as:List Addr) (src:Int) (f:Nat->List Int) (es sp:List Int):Prop where
 ins:H x=some (.ins C dx [("source", .int src),("arcs", .ref lA),("ends", .ref lE),("spare", .ref lS)])
 arcs:H lA=some (.lst (as.map V.ref))
 rws:∀ (p:Nat) (a:Addr),as[p]?=some a->H a=some (.lst ((f p).map V.int))
 ends:H lE=some (.lst (es.map V.int))
 spr:H lS=some (.lst (sp.map V.int))
 nd:(lA::lE::lS::as).Nodup
structure SAt (C:Addr) (H:Hp) (x dx lA lE lS:Addr) (as:List Addr) (src:Int) (n:Nat) (ts:List Tie) (sp:List Int):Prop where
 raw:SRaw C H x dx lA lE lS as src (λp=>arcsTo ts p ts.length) (endsOf ts) sp
 len:as.length=n
 tin:∀ t∈ts,t.h < n/\t.t < n
 snd:Sound ts sp
 sz:n<=3000/\ts.length<=3000
def KeptM (M:List Addr) (H H':Hp):Prop:=∀ b u,b ∉ M->H b=some u->H' b=some u
theorem Same.keptM {M:List Addr}{H H':Hp} (s:Same H H'):KeptM M H H':=λb u _ e=>s b u e
theorem KeptM.trans {M:List Addr} {H H1 H2:Hp} (a:KeptM M H H1) (b:KeptM M H1 H2):KeptM M H H2:=λc u n e=>b c u n (a c u n e)
theorem KeptM.upd {M:List Addr}{H:Hp}{p:Addr}{o:HO} (h:p∈M):KeptM M H (upd H p o):=λb u n e=>by rw [xb (λz=>n (by rw [z];exact h))];exact e
theorem KeptM.sub {M N:List Addr}{H H':Hp} (a:KeptM M H H') (s:∀ x∈M,x∈N):KeptM N H H':=λb u n e=>a b u (λz=>n (s b z)) e
section
variable {C:Addr}{H H':Hp}{x dx lA lE lS:Addr}{as:List Addr}{src:Int}{f:Nat->List Int}{es sp:List Int}{n:Nat}{ts:List Tie}
theorem SRaw.same (a:SRaw C H x dx lA lE lS as src f es sp) (s:Same H H'):SRaw C H' x dx lA lE lS as src f es sp:=
 ⟨s _ _ a.ins,s _ _ a.arcs,λp r hr=>s _ _ (a.rws p r hr),s _ _ a.ends,s _ _ a.spr,a.nd⟩
theorem SAt.same (a:SAt C H x dx lA lE lS as src n ts sp) (s:Same H H'):SAt C H' x dx lA lE lS as src n ts sp:=⟨a.raw.same s,a.len,a.tin,a.snd,a.sz⟩
theorem SRaw.nx (a:SRaw C H x dx lA lE lS as src f es sp):x ∉ lA::lE::lS::as:=by
 intro h
 have hx:=a.ins
 rcases zH.mp h with rfl | h
 ·rw [a.arcs] at hx;cases hx
 rcases zH.mp h with rfl | h
 ·rw [a.ends] at hx;cases hx
 rcases zH.mp h with rfl | h
 ·rw [a.spr] at hx;cases hx
 obtain ⟨i,hi⟩:=zy h
 rw [a.rws i _ hi] at hx;cases hx
theorem SRaw.ns (a:SRaw C H x dx lA lE lS as src f es sp):lA≠lE/\lA≠lS/\lA ∉ as/\lE≠lS/\lE ∉ as/\lS ∉ as/\as.Nodup:=by
 have h1:=ze.mp a.nd
 have h2:=ze.mp h1.2
 have h3:=ze.mp h2.2
 simp only [zH,not_or] at h1 h2
 exact ⟨h1.1.1,h1.1.2.1,h1.1.2.2,h2.1.1,h2.1.2,h3.1,h3.2⟩
theorem nod_at34 {α:Type}{as:List α} (nd:as.Nodup) {i j:Nat}{a:α} (hi:as[i]?=some a) (hj:as[j]?=some a):i=j:=by
 obtain ⟨h1,e1⟩:=zB.mp hi
 obtain ⟨h2,e2⟩:=zB.mp hj
 have pw:=zp.mp nd
 rcases Nat.lt_trichotomy i j with c | c | c
 ·exact absurd (e1.trans e2.symm) (pw i j h1 h2 c)
 ·exact c
 ·exact absurd (e2.trans e1.symm) (pw j i h2 h1 c)
theorem mem_ne {a b:Addr}{l:List Addr} (ha:a ∉ l) (hb:b∈l):a≠b:=λe=>ha (by rw [e];exact hb)
theorem SRaw.app (a:SRaw C H x dx lA lE lS as src f es sp) {h:Nat}{l:Addr}{z:Int} (hl:as[h]?=some l):SRaw C (upd H l (.lst ((f h).map V.int++[V.int z]))) x dx lA lE lS as src (λp=>f p++if h=p then [z] else []) es sp:=by
 obtain ⟨n1,n2,n3,n4,n5,n6,n7⟩:=a.ns
 have m:=zC hl
 have nx:=a.nx
 simp only [zH,not_or] at nx
 refine ⟨by rw [xb (mem_ne nx.2.2.2 m)];exact a.ins,by rw [xb (mem_ne n3 m)];exact a.arcs,λp b hb=>?_,by rw [xb (mem_ne n5 m)];exact a.ends,by rw [xb (mem_ne n6 m)];exact a.spr,a.nd⟩
 by_cases c:h=p
 ·subst c
  obtain rfl:l=b:=by rw [hl] at hb;exact Option.some.inj hb
  rw [xW];show _=some (HO.lst (List.map V.int (f h++if h=h then [z] else [])));rw [if_pos rfl,zK];rfl
 ·have:b≠l:=λe=>c (by
   subst e
   exact nod_at34 n7 hl hb)
  rw [xb this];show _=some (HO.lst (List.map V.int (f p++if h=p then [z] else [])));rw [if_neg c,zn];exact a.rws p b hb
theorem SRaw.setE (a:SRaw C H x dx lA lE lS as src f es sp) {es':List Int}:SRaw C (upd H lE (.lst (es'.map V.int))) x dx lA lE lS as src f es' sp:=by
 obtain ⟨n1,n2,n3,n4,n5,n6,n7⟩:=a.ns
 have nx:=a.nx
 simp only [zH,not_or] at nx
 exact ⟨by rw [xb nx.2.1];exact a.ins,by rw [xb n1];exact a.arcs,λp b hb=>by rw [xb (Ne.symm (mem_ne n5 (zC hb)))];exact a.rws p b hb,xW,by rw [xb (Ne.symm n4)];exact a.spr,a.nd⟩
theorem SRaw.setS (a:SRaw C H x dx lA lE lS as src f es sp) {sp':List Int}:SRaw C (upd H lS (.lst (sp'.map V.int))) x dx lA lE lS as src f es sp':=by
 obtain ⟨n1,n2,n3,n4,n5,n6,n7⟩:=a.ns
 have nx:=a.nx
 simp only [zH,not_or] at nx
 exact ⟨by rw [xb nx.2.2.1];exact a.ins,by rw [xb n2];exact a.arcs,λp b hb=>by rw [xb (Ne.symm (mem_ne n6 (zC hb)))];exact a.rws p b hb,by rw [xb n4];exact a.ends,xW,a.nd⟩
theorem SRaw.setX (a:SRaw C H x dx lA lE lS as src f es sp) {src':Int}:SRaw C (upd H x (.ins C dx [("source", .int src'),("arcs", .ref lA),("ends", .ref lE),("spare", .ref lS)])) x dx lA lE lS as src' f es sp:=by
 have nx:=a.nx
 simp only [zH,not_or] at nx
 exact ⟨xW,by rw [xb (Ne.symm nx.1)];exact a.arcs,λp b hb=>by rw [xb (Ne.symm (mem_ne nx.2.2.2 (zC hb)))];exact a.rws p b hb,by rw [xb (Ne.symm nx.2.1)];exact a.ends,by rw [xb (Ne.symm nx.2.2.1)];exact a.spr,a.nd⟩
end
def spInitS (C:Addr):Sp:=λvs H Q _=>∃ x dx,∃ n:Nat,vs=[.ref x,.int (n:Int)]/\H x=some (.ins C dx [])/\n<=3000 /\
 ∀ lA lE lS as H',But x H H'->SAt C H' x dx lA lE lS as 0 n [] []->(∀ b∈lA::lE::lS::as,H b=none)->Q .non H'
def spTieS (C:Addr):Sp:=λvs H Q _=>∃ x dx lA lE lS as src n ts sp,∃ h t:Nat,∃ m:Int,vs=[.ref x,.int (h:Int),.int (t:Int),.int m]/\SAt C H x dx lA lE lS as src n ts sp/\h < n/\t < n/\0<=m/\ts.length < 3000 /\
 ∀ H',KeptM (x::lE::lS::as) H H'->SAt C H' x dx lA lE lS as src n (ts++[⟨h,t,m⟩]) (sp++[m,0])->Q (.int (ts.length:Int)) H'
def spSentS (C:Addr):Sp:=λvs H Q _=>∃ x dx lA lE lS as src n ts sp,∃ k:Nat,vs=[.ref x,.int (k:Int)]/\SAt C H x dx lA lE lS as src n ts sp/\k < ts.length/\Q (.int (at0 sp (2 * k + 1))) H
def pts (tree:List (Nat×Option Nat)):List Nat:=tree.map (·.1)
def spCameS (C:Addr):Sp:=λvs H Q _=>∃ x dx lA lE lS as,∃ src:Nat,∃ n ts sp,∃ g:Option Nat,vs=[.ref x,oV (g.map λz=>(z:Int))]/\SAt C H x dx lA lE lS as (src:Int) n ts sp/\src < n /\
 ∀ d tree H',Same H H'->H d=none->H' d=some (.dK (treeK tree))->TreeOk ts sp n src tree->((∀ z,g=some z->z ∉ pts tree)->∀ p∈pts tree,ClosedAt ts sp (pts tree) p)->Q (.ref d) H'
def spAlongS (C:Addr):Sp:=λvs H Q _=>∃ x dx lA lE lS as,∃ src:Nat,∃ n ts sp d tree,∃ g:Nat,vs=[.ref x,.ref d,.int (g:Int)]/\SAt C H x dx lA lE lS as (src:Int) n ts sp/\H d=some (.dK (treeK tree))/\TreeOk ts sp n src tree/\g∈pts tree/\g≠src /\
 ∀ m w H',0 < m->BackW ts g w src->(∀ a∈w,a < 2 * ts.length/\m<=at0 sp a)->w.Nodup->KeptM [lS] H H'->SAt C H' x dx lA lE lS as (src:Int) n ts (bumpAll sp w m)->Q (.int m) H'
def spSendS (C:Addr):Sp:=λvs H Q _=>∃ x dx lA lE lS as src0 n ts sp,∃ s g:Nat,vs=[.ref x,.int (s:Int),.int (g:Int)]/\SAt C H x dx lA lE lS as src0 n ts sp/\s < n/\g < n/\s≠g /\
 ∀ tot sp' tree H',KeptM [x,lS] H H'->SAt C H' x dx lA lE lS as (s:Int) n ts sp'->0<=tot->(∀ p,net ts sp' p ts.length=net ts sp p ts.length + tot * ((if g=p then 1 else 0) - (if s=p then 1 else 0)))->TreeOk ts sp' n s tree->g ∉ pts tree->(∀ p∈pts tree,ClosedAt ts sp' (pts tree) p)->Q (.int tot) H'
end Sm
namespace L2
open PySem PySem.Spec PyProof.Rows
theorem pe_fld' {X:Cx}{K:PySem.W.Frag}{e:Expr}{f:Str}{pos:Pos}{ta:TE} (hK:X.K=K) (he:PE X e ta) (hb:attributeBase e f X.env (eval e X.env)=eval e X.env):PE X (.Attribute e f pos) (tFld K ta f):=by subst hK;exact pe_fld he hb
section
variable {n:Nat}{caps:List Nat}{g:TG}{tc:TT}{te:TE}{σ:St}{H:Hp}{Qf:Addr->Hp->List V->Prop}
theorem comp_rangeB {lo:Int}{m:Nat} (Pv:Nat->St->List V->Hp->Prop) (h0:Pv 0 (tau0 n caps σ) [] H) (hn:m<=200000) (hl:∀ i τ acc H,Pv i τ acc H->acc.length<=i)
  (hs:∀ i τ acc H (C:St->List V->Hp->Prop),i < m->Pv i τ acc H->(∀ τ acc H,Pv (i + 1) τ acc H->C τ acc H)->g (.int (lo + i)) τ H fun τ2 H2=>tc τ2 H2 λb H3=>if b=true then te τ2 H3 λy H4=>C τ2 (acc++[y]) H4 else C τ2 acc H3)
  (hd:∀ τ acc H,Pv m τ acc H->∀ p,H p=none->Qf p H acc) :
  ∃ W:Nat->Nat->St->List V->Hp->Prop,(∃ m,W 0 m (tau0 n caps σ) [] H)/\∀ i m' τ acc H,W i m' τ acc H ->
   ((Itr lo m).stop i H/\acc.length<=sizeLine/\∀ p,H p=none->Qf p H acc) \/
   ((Itr lo m).go i H/\acc.length < sizeLine/\∀ x H',(Itr lo m).yld i H x H'->g x τ H' fun τ2 H2=>tc τ2 H2 λb H3=>if b=true then te τ2 H3 λy H4=>∃ m'',m'' < m'/\W (i + 1) m'' τ2 (acc++[y]) H4 else ∃ m'',m'' < m'/\W (i + 1) m'' τ2 acc H3):=
 comp_ofB (J:=Itr lo m) Pv m h0 hn hl (λi τ acc H hi p=>hi) (fun τ acc H p=>zD _)
  (λi τ acc H C hi p c x H' y=>by obtain ⟨e1,e2⟩:=y;subst e1;subst e2;exact hs i τ acc _ C hi p c) hd
end
end L2
namespace Sm
open PySem L2 SmSort
theorem arcsTo_snoc {ts:List Tie}{x:Tie}{p:Nat}:∀ i,i<=ts.length->arcsTo (ts++[x]) p i=arcsTo ts p i
 | 0,_=>rfl
 | i + 1,hi=>by
  unfold arcsTo
  rw [arcsTo_snoc i (by omega),zV (by omega)]
theorem arcsTo_end {ts:List Tie}{x:Tie}{p:Nat}:arcsTo (ts++[x]) p (ts++[x]).length=arcsTo ts p ts.length++((if x.h=p then [((2 * ts.length:Nat):Int)] else [])++(if x.t=p then [((2 * ts.length + 1:Nat):Int)] else [])):=by
 rw [zE]
 show arcsTo _ _ (ts.length + 1)=_
 conv=>lhs;unfold arcsTo
 rw [arcsTo_snoc _ (zD _),zY (zD _),xJ]
 rfl
theorem endsOf_snoc {ts:List Tie}{x:Tie}:endsOf (ts++[x])=endsOf ts++[(x.t:Int),(x.h:Int)]:=by unfold endsOf;rw [List.flatMap_append];rfl
theorem at_snoc {sp:List Int}{a:Nat}{zs:List Int} (h:a < sp.length):at0 (sp++zs) a=at0 sp a:=by unfold at0;rw [zV h]
theorem Sound.snoc {ts:List Tie}{sp:List Int}{x:Tie} (s:Sound ts sp) (m0:0<=x.m):Sound (ts++[x]) (sp++[x.m,0]):=by
 have l:=s.len
 have e0:at0 (sp++[x.m,0]) (2 * ts.length)=x.m:=by unfold at0;rw [zY (by omega),l,xJ];rfl
 have e1:at0 (sp++[x.m,0]) (2 * ts.length + 1)=0:=by unfold at0;rw [zY (by omega),l,show 2 * ts.length + 1 - 2 * ts.length=1 by omega];rfl
 refine ⟨by rw [zE,zE,l];show _ + 2=2 * (_ + 1);omega,λa ha=>?_,λk y hy=>?_⟩
 ·rw [zE] at ha
  have ha:a < 2 * (ts.length + 1):=ha
  by_cases c:a < 2 * ts.length
  ·rw [at_snoc (by omega)];exact s.pos a c
  ·rcases (by omega:a=2 * ts.length\/a=2 * ts.length + 1) with rfl | rfl
   ·rw [e0];exact m0
   ·rw [e1];exact zq _
 ·by_cases c:k < ts.length
  ·rw [zV c] at hy
   rw [at_snoc (by omega),at_snoc (by omega)];exact s.sum k y hy
  ·have hk:k < (ts++[x]).length:=(zB.mp hy).1
   rw [zE] at hk
   have:k=ts.length:=by have:k < ts.length + 1:=hk;omega
   subst this
   rw [zY (zD _),xJ] at hy
   cases hy
   rw [e0,e1];omega
theorem map_at {xs:List Int}{a:Nat}{z:Int} (h:xs[a]?=some z):(xs.map V.int)[a]?=some (V.int z):=by rw [zS,h];rfl
theorem at0_get {sp:List Int}{a:Nat} (h:a < sp.length):sp[a]?=some (at0 sp a):=by unfold at0;rw [zL h];rfl
theorem map_setI {xs:List Int}{a:Nat}{z:Int}:(xs.map V.int).set a (.int z)=(xs.set a z).map V.int:=by rw [List.map_set]
theorem arcsTo_len {ts:List Tie}{p:Nat}:∀ i,(arcsTo ts p i).length<=2 * i
 | 0=>zD _
 | i + 1=>by
  have ih:=arcsTo_len (ts:=ts) (p:=p) i
  unfold arcsTo
  rw [zE]
  split
  ·rw [zE];split <;> split <;> simp <;> omega
  ·simp;omega
theorem tree_get {p:Nat}:∀ {tree:List (Nat×Option Nat)},p ∉ pts tree->valV (treeK tree) (Sum.inl (p:Int))=none
 | [],_=>rfl
 | x::tree,h=>by
  have h1:¬ x.1=p:=λz=>h (by rw [<-z];exact .head _)
  have e:treeK (x::tree)=(Sum.inl (x.1:Int),oV (x.2.map λa=>(a:Int)))::treeK tree:=rfl
  rw [e,wW (λz=>h1 (by injection z with z;exact Int.ofNat.inj z))]
  exact tree_get λz=>h (.tail _ z)
theorem tree_got:∀ {tree:List (Nat×Option Nat)}{i p:Nat}{o:Option Nat},(pts tree).Nodup->tree[i]?=some (p,o)->valV (treeK tree) (Sum.inl (p:Int))=some (oV (o.map λa=>(a:Int)))
 | [],i,p,o,_,h=>by cases h
 | x::tree,0,p,o,_,h=>by cases h;exact wX rfl
 | x::tree,i + 1,p,o,nd,h=>by
  have e:treeK (x::tree)=(Sum.inl (x.1:Int),oV (x.2.map λa=>(a:Int)))::treeK tree:=rfl
  have nd:(x.1::pts tree).Nodup:=nd
  have nd:=ze.mp nd
  have h:tree[i]?=some (p,o):=h
  have hm:p∈pts tree:=zQ.mpr ⟨_,zC h,rfl⟩
  rw [e,wW (λz=>nd.1 (by injection z with z;rw [Int.ofNat.inj z];exact hm))]
  exact tree_got nd.2 h
theorem tree_some {p:Nat}{tree:List (Nat×Option Nat)} (nd:(pts tree).Nodup):(valV (treeK tree) (Sum.inl (p:Int))).isSome=decide (p∈pts tree):=by
 by_cases c:p∈pts tree
 ·obtain ⟨x,hx,rfl⟩:=zQ.mp c
  obtain ⟨i,hi⟩:=zy hx
  rw [tree_got (o:=x.2) nd hi,decide_eq_true c];rfl
 ·rw [tree_get c,decide_eq_false c];rfl
theorem tree_put {p a:Nat}{tree:List (Nat×Option Nat)} (h:p ∉ pts tree):putK (treeK tree) (Sum.inl (p:Int)) (.int (a:Int))=treeK (tree++[(p,some a)]):=by
 unfold putK
 rw [L2.valV_any,tree_get h,if_neg (by decide)]
 unfold treeK
 rw [zK];rfl
theorem pts_snoc {tree:List (Nat×Option Nat)}{p:Nat}{o:Option Nat}:pts (tree++[(p,o)])=pts tree++[p]:=by unfold pts;rw [zK];rfl
theorem nodup_pts {n:Nat}{l:List Nat} (nd:l.Nodup) (h:∀ x∈l,x < n):l.length<=n:=by
 have:=nodup_len (xs:=l.map λx:Nat=>(x:Int)) (ys:=(List.range n).map λx:Nat=>(x:Int)) (yL.mpr (nd.imp λh e=>h (Int.ofNat_inj.mp e))) λx hx=>by
  obtain ⟨y,hy,rfl⟩:=zQ.mp hx
  exact zQ.mpr ⟨y,zl.mpr (h y hy),rfl⟩
 rwa [zA,zA,yD] at this
theorem TreeOk.snoc {ts:List Tie}{sp:List Int}{n src:Nat}{tree:List (Nat×Option Nat)} (k:TreeOk ts sp n src tree) {a p:Nat} (ha:a < 2 * ts.length) (hp:p ∉ pts tree) (pn:p < n) (he:hd ts a=p) (h0:0 < at0 sp a) (hin:tl ts a∈pts tree):TreeOk ts sp n src (tree++[(p,some a)]):=by
 have hne:0 < tree.length:=(zB.mp k.root).1
 refine ⟨by rw [zV hne];exact k.root,?_,λx hx=>?_,λi x hx hi=>?_⟩
 ·have:=pts_snoc (tree:=tree) (p:=p) (o:=some a)
  unfold pts at this hp
  rw [this]
  exact List.nodup_append.mpr ⟨k.nod,ze.mpr ⟨by simp,.nil⟩,λb hb c hc=>by rw [zF.mp hc];exact λz=>hp (z ▸ hb)⟩
 ·rcases zT.mp hx with h | h
  ·exact k.ins x h
  ·rw [zF.mp h];exact pn
 ·by_cases c:i < tree.length
  ·rw [zV c] at hx
   obtain ⟨b,h1,h2,h3,h4,j,y,h5,h6,h7⟩:=k.arc i x hx hi
   exact ⟨b,h1,h2,h3,h4,j,y,h5,by rw [zV (by omega)];exact h6,h7⟩
  ·have hl:=(zB.mp hx).1
   rw [zE] at hl
   have:i=tree.length:=by have:i < tree.length + 1:=hl;omega
   subst this
   rw [zY (zD _),xJ] at hx
   cases hx
   obtain ⟨y,hy,ey⟩:=zQ.mp hin
   obtain ⟨j,hj⟩:=zy hy
   have jl:=(zB.mp hj).1
   exact ⟨a,rfl,ha,he,h0,j,y,jl,by rw [zV jl];exact hj,ey⟩
theorem TreeOk.nd {ts:List Tie}{sp:List Int}{n src:Nat}{tree:List (Nat×Option Nat)} (k:TreeOk ts sp n src tree):(pts tree).Nodup:=k.nod
theorem iteAny {c:Bool}{A B:Prop} (h1:c=true->A) (h0:c=false->B):if c=true then A else B:=by
 cases c
 ·exact h0 rfl
 ·exact h1 rfl
structure Cam34 (H H5:Hp) (d l:Addr) (ts:List Tie) (sp:List Int) (n src:Nat) (tree:List (Nat×Option Nat)):Prop where
 sm:Same H H5
 fd:H d=none
 fl:H l=none
 ne:d≠l
 hd:H5 d=some (.dK (treeK tree))
 hl:H5 l=some (.lst ((pts tree).map λp:Nat=>V.int (p:Int)))
 tk:TreeOk ts sp n src tree
theorem Cam34.add {H H5:Hp}{d l:Addr}{ts:List Tie}{sp:List Int}{n src:Nat}{tree:List (Nat×Option Nat)}{p a:Nat} (c:Cam34 H H5 d l ts sp n src tree) (tk:TreeOk ts sp n src (tree++[(p,some a)])):Cam34 H (upd (upd H5 d (.dK (treeK (tree++[(p,some a)])))) l (.lst (((pts tree).map λp:Nat=>V.int (p:Int))++[V.int (p:Int)]))) d l ts sp n src (tree++[(p,some a)]):=
 ⟨Same.put c.fl (Same.put c.fd c.sm),c.fd,c.fl,c.ne,by rw [xb c.ne];exact xW,by rw [xW,pts_snoc,zK];rfl,tk⟩
theorem TreeOk.len {ts:List Tie}{sp:List Int}{n src:Nat}{tree:List (Nat×Option Nat)} (k:TreeOk ts sp n src tree):tree.length<=n:=by
 have:=nodup_pts k.nd λx hx=>by obtain ⟨y,hy,rfl⟩:=zQ.mp hx;exact k.ins y hy
 unfold pts at this;rwa [zA] at this
theorem tree_one {ts:List Tie}{sp:List Int}{n src:Nat} (h:src < n):TreeOk ts sp n src [(src,none)]:=
 ⟨rfl,ze.mpr ⟨by simp,.nil⟩,λx hx=>by rw [zF.mp hx];exact h,λi x hx hi=>by
  match i,hi with
  | i + 1,_=>cases hx⟩
theorem ClosedAt.more {ts:List Tie}{sp:List Int}{ps qs:List Nat}{p:Nat} (c:ClosedAt ts sp ps p) (h:∀ x∈ps,x∈qs):ClosedAt ts sp qs p:=λa h1 h2 h3=>h _ (c a h1 h2 h3)
theorem BackW.pos {ts:List Tie}{g c:Nat}{w:List Nat} (b:BackW ts g w c) (h:g≠c):0 < w.length:=by
 cases b with
 | nil=>exact absurd rfl h
 | snoc b=>rw [zE];exact Nat.succ_pos _
theorem hd_lt {ts:List Tie}{n a:Nat} (tin:∀ t∈ts,t.h < n/\t.t < n) (h:a < 2 * ts.length):hd ts a < n:=by
 obtain ⟨k,x,hx,rfl | rfl⟩:=arc_split h
 ·rw [(hd_even hx).1];exact (tin x (zC hx)).2
 ·rw [(hd_even hx).2];exact (tin x (zC hx)).1
end Sm
namespace Sm
open PySem L2 SmSort
def straight (L:L4) (M:M4):Prop:=L.a < M.t/\L.s≠L.w/\(M.lo=(L.s:Int)\/M.hi=(L.s:Int))/\(M.lo=(L.w:Int)\/M.hi=(L.w:Int))
instance (L:L4) (M:M4):Decidable (straight L M):=by unfold straight;infer_instance
section
variable {rooms:List Int}{ms:List M4}{ls:List (Addr×L4)}{d:RuleD}{m j:Nat}{s:RS}{M:M4}{L:Addr×L4}{o:Option (Nat×Int)}
end
end Sm
namespace Sm
open PySem L2 SmSort
theorem eqV_refl {x:V} (h:flatV x=true):eqV x x=true:=by
 cases x with
 | non=>rfl
 | bl b=>show (b == b)=true;simp
 | int i=>show (i == i)=true;simp
 | str z=>show (z == z)=true;simp
 | _=>cases h
section
variable {ms:List M4}{L:L4}{M:M4}{m:Nat}
end
section
variable {rooms:List Int}{ms:List M4}{ls:List (Addr×L4)}{d:RuleD}{m:Nat}{M:M4}{s:RS}
end
end Sm
namespace L2
open PySem PySem.Spec PyProof.Rows
end L2
namespace Sm
open PySem L2 SmSort
def spr (ts:List Tie):List Int:=ts.flatMap λt=>[t.m,0]
theorem spr_snoc {ts:List Tie}{x:Tie}:spr (ts++[x])=spr ts++[x.m,0]:=by unfold spr;rw [List.flatMap_append];rfl
theorem spr_odd:∀ (ts:List Tie) (k:Nat),at0 (spr ts) (2 * k + 1)=0
 | [],k=>by unfold at0 spr;simp
 | x::ts,0=>rfl
 | x::ts,k + 1=>by
  have ih:=spr_odd ts k
  have e:spr (x::ts)=[x.m,0]++spr ts:=rfl
  rw [e]
  have:at0 ([x.m,0]++spr ts) (2 * (k + 1) + 1)=at0 (spr ts) (2 * k + 1):=rfl
  rw [this];exact ih
theorem net_spr {ts:List Tie}{p:Nat}:∀ i,net ts (spr ts) p i=0
 | 0=>rfl
 | i + 1=>by
  show net ts (spr ts) p i + (match ts[i]? with | some x=>_ | none=>_)=_
  rw [net_spr i,spr_odd]
  split
  ·rw [Int.zero_mul];rfl
  ·rfl
section
variable {H H5 H6:Hp}{l:Addr}{n m:Nat}{rows:List (Addr×Tie)}{p:Addr}
end
theorem KeptM.same {M:List Addr} {H H1 H2:Hp} (s:Same H H1) (k:KeptM M H1 H2) (f:∀ b∈M,H b=none):Same H H2:=λb u e=>k b u (λh=>by rw [f b h] at e;cases e) (s b u e)
theorem made_same {H H':Hp}{x dx C:Addr} (fx:H x=none) (fd:H dx=none) (b:But x (upd (upd H dx (.own x)) x (.ins C dx [])) H'):Same H H':=λc u e=>b c u (xZ e fx) (by rw [xb (xZ e fx),xb (xZ e fd)];exact e)
theorem made_free {H:Hp}{x dx b:Addr}{o o':HO} (h:upd (upd H dx o) x o' b=none):H b=none:=by
 by_cases c1:b=x
 ·subst c1;rw [xW] at h;cases h
 ·rw [xb c1] at h
  by_cases c2:b=dx
  ·subst c2;rw [xW] at h;cases h
  ·rwa [xb c2] at h
theorem net_step {ts:List Tie}{sp:List Int}{i:Nat}{x:Tie} (hx:ts[i]?=some x) (p:Nat):net ts sp p (i + 1)=net ts sp p i + at0 sp (2 * i + 1) * ((if x.t=p then 1 else 0) - (if x.h=p then 1 else 0)):=by
 show net ts sp p i + (match ts[i]? with | some x=>_ | none=>_)=_
 rw [hx]
theorem sent_within {ts:List Tie}{sp:List Int} (s:Sound ts sp) {k:Nat}{x:Tie} (hx:ts[k]?=some x):0<=at0 sp (2 * k + 1)/\at0 sp (2 * k + 1)<=x.m:=by
 have hk:=(zB.mp hx).1
 have h1:=s.pos (2 * k) (by omega)
 have h2:=s.pos (2 * k + 1) (by omega)
 have h3:=s.sum k x hx
 omega
theorem eq_flat34 {K:PySem.W.Frag}{H:Hp}{l d:Addr}{xs:List V}{Q:VK}{neg:Bool} (hf:∀ x∈xs,flatV x=true) (hl:H l=some (.lst xs)) (hd:H d=some (.lst xs)) (q:Q (.bl (if neg=true then !true else true)) H):rEqv K neg (.ref l) (.ref d) H Q:=by
 refine ⟨0,l,d,_,_,λ_=>true,true,by decide,rfl,rfl,.inl ⟨SqL.of hl,SqL.of hd⟩,by simp,λi x y hx hy=>?_,q⟩
 rw [hx] at hy;cases hy
 have h:=hf x (zC hx)
 exact .inr ⟨h,h,(eqV_refl h).symm⟩
end Sm
namespace Sm
open PySem L2 SmSort
theorem TreeOk.src {ts:List Tie}{sp:List Int}{n src:Nat}{tree:List (Nat×Option Nat)} (k:TreeOk ts sp n src tree):src∈pts tree:=zQ.mpr ⟨_,zC k.root,rfl⟩
def sm35 (f:Nat->Int):List Nat->Int
 | []=>0
 | p::S=>f p + sm35 f S
theorem sm_add (f g:Nat->Int):∀ S,sm35 (λp=>f p + g p) S=sm35 f S + sm35 g S
 | []=>rfl
 | p::S=>by show f p + g p + sm35 _ S=f p + sm35 f S + (g p + sm35 g S);rw [sm_add f g S];omega
theorem sm_sub (f g:Nat->Int):∀ S,sm35 (λp=>f p - g p) S=sm35 f S - sm35 g S
 | []=>rfl
 | p::S=>by show f p - g p + sm35 _ S=f p + sm35 f S - (g p + sm35 g S);rw [sm_sub f g S];omega
theorem sm_mul (c:Int) (f:Nat->Int):∀ S,sm35 (λp=>c * f p) S=c * sm35 f S
 | []=>by show (0:Int)=c * 0;rw [xT]
 | p::S=>by show c * f p + sm35 _ S=c * (f p + sm35 f S);rw [sm_mul c f S,Int.mul_add]
theorem sm_one (t:Nat):∀ {S:List Nat},S.Nodup->sm35 (λp=>if t=p then 1 else 0) S=if t∈S then 1 else 0
 | [],_=>by rw [if_neg (by simp)];rfl
 | p::S,nd=>by
  have nd:=ze.mp nd
  show (if t=p then (1:Int) else 0) + sm35 _ S=_
  rw [sm_one t nd.2]
  by_cases c:t=p
  ·subst c;rw [if_pos rfl,if_neg nd.1,if_pos (z4 ..)];rfl
  ·rw [if_neg c]
   by_cases d:t∈S
   ·rw [if_pos d,if_pos (zf _ d)];rfl
   ·rw [if_neg d,if_neg (by simp [c,d])];rfl
theorem sm_zero:∀ S,sm35 (λ_=>0) S=0
 | []=>rfl
 | p::S=>by show (0:Int) + sm35 _ S=0;rw [sm_zero S];rfl
def cutS (ts:List Tie) (S:List Nat):Nat->Int
 | 0=>0
 | i + 1=>cutS ts S i + (match ts[i]? with | some x=>(if x.h∈S/\x.t ∉ S then x.m else 0) | none=>0)
theorem net_cut {ts:List Tie}{sp:List Int} (s:Sound ts sp) {S:List Nat} (nd:S.Nodup) (cl:∀ p∈S,ClosedAt ts sp S p):∀ i,i<=ts.length->sm35 (λp=>net ts sp p i) S=- cutS ts S i
 | 0,_=>sm_zero S
 | i + 1,hi=>by
  obtain ⟨x,hx⟩:∃ x,ts[i]?=some x:=⟨_,zL (by omega)⟩
  have ih:=net_cut s nd cl i (by omega)
  have e:(λp=>net ts sp p (i + 1))=λp=>net ts sp p i + at0 sp (2 * i + 1) * ((if x.t=p then 1 else 0) - (if x.h=p then 1 else 0)):=by funext p;exact net_step hx p
  have ec:cutS ts S (i + 1)=cutS ts S i + (if x.h∈S/\x.t ∉ S then x.m else 0):=by
   show cutS ts S i + (match ts[i]? with | some x=>_ | none=>_)=_
   rw [hx]
  rw [e,sm_add,ih,sm_mul,sm_sub,sm_one _ nd,sm_one _ nd,ec]
  have h1:=s.pos (2 * i) (by omega)
  have h2:=s.pos (2 * i + 1) (by omega)
  have h3:=s.sum i x hx
  obtain ⟨a1,a2⟩:=hd_even hx
  obtain ⟨b1,b2⟩:=tl_even hx
  by_cases c1:x.h∈S
  ·by_cases c2:x.t∈S
   ·rw [if_pos c2,if_pos c1,if_neg (λh=>h.2 c2)];omega
   ·rw [if_neg c2,if_pos c1,if_pos ⟨c1,c2⟩]
    have:¬ 0 < at0 sp (2 * i):=λh=>c2 (by have:=cl _ c1 (2 * i) (by omega) b1 h;rwa [a1] at this)
    have:at0 sp (2 * i + 1)=x.m:=by omega
    rw [this];omega
  ·rw [if_neg c1,if_neg (show ¬ (x.h∈S/\x.t ∉ S) from λh=>c1 h.1)]
   by_cases c2:x.t∈S
   ·rw [if_pos c2]
    have:¬ 0 < at0 sp (2 * i + 1):=λh=>c1 (by have:=cl _ c2 (2 * i + 1) (by omega) b2 h;rwa [a2] at this)
    have:at0 sp (2 * i + 1)=0:=by omega
    rw [this];omega
   ·rw [if_neg c2];omega
theorem cut_tot {ts:List Tie}{sp:List Int} (s:Sound ts sp) {S:List Nat} (nd:S.Nodup) (cl:∀ p∈S,ClosedAt ts sp S p) {tot:Int} {s0 g:Nat} (h0:s0∈S) (hg:g ∉ S) (nt:∀ p,net ts sp p ts.length=tot * ((if g=p then 1 else 0) - (if s0=p then 1 else 0))):cutS ts S ts.length=tot:=by
 have:=net_cut s nd cl _ (zD _)
 have e:(λp=>net ts sp p ts.length)=λp=>tot * ((if g=p then 1 else 0) - (if s0=p then 1 else 0)):=funext nt
 rw [e,sm_mul,sm_sub,sm_one _ nd,sm_one _ nd,if_neg hg,if_pos h0] at this
 omega
theorem SAt.kept {C:Addr}{H H':Hp}{x dx lA lE lS:Addr}{as:List Addr}{src:Int}{n:Nat}{ts:List Tie}{sp:List Int}{M:List Addr} (a:SAt C H x dx lA lE lS as src n ts sp) (k:KeptM M H H') (f:∀ b∈x::lA::lE::lS::as,b ∉ M):SAt C H' x dx lA lE lS as src n ts sp:=
 ⟨⟨k _ _ (f _ (.head _)) a.raw.ins,k _ _ (f _ (.tail _ (.head _))) a.raw.arcs,λp r hr=>k _ _ (f _ (.tail _ (.tail _ (.tail _ (.tail _ (zC hr)))))) (a.raw.rws p r hr),k _ _ (f _ (.tail _ (.tail _ (.head _)))) a.raw.ends,k _ _ (f _ (.tail _ (.tail _ (.tail _ (.head _))))) a.raw.spr,a.raw.nd⟩,a.len,a.tin,a.snd,a.sz⟩
theorem own_some {C:Addr}{H:Hp}{x dx lA lE lS:Addr}{as:List Addr}{src:Int}{n:Nat}{ts:List Tie}{sp:List Int} (a:SAt C H x dx lA lE lS as src n ts sp):∀ b∈x::lA::lE::lS::as,H b≠none:=by
 intro b hb
 rcases zH.mp hb with rfl | hb
 ·rw [a.raw.ins];exact λz=>by cases z
 rcases zH.mp hb with rfl | hb
 ·rw [a.raw.arcs];exact λz=>by cases z
 rcases zH.mp hb with rfl | hb
 ·rw [a.raw.ends];exact λz=>by cases z
 rcases zH.mp hb with rfl | hb
 ·rw [a.raw.spr];exact λz=>by cases z
 obtain ⟨i,hi⟩:=zy hb
 rw [a.raw.rws i _ hi];exact λz=>by cases z
end Sm
namespace Sm
open PySem L2 SmSort
structure Lay (N W:Nat) (lo hi:Nat->Nat) (wait:Nat->Nat->Int) (th bk:Nat->Int) (g:Nat->Option Nat) (amt out:Nat->Nat->Int) (tot:Int) (a z s0 w0:Nat):Prop where
 ne:∀ i,i < N->lo i≠hi i/\lo i < W/\hi i < W
 pos:∀ i v,0<=wait i v
 gv:∀ i,i < N->(g i=none/\th i=bk i/\0<=th i)\/(g i=some (lo i)/\th i=1/\bk i=0)\/(g i=some (hi i)/\th i=0/\bk i=1)
 nxt:∀ i v,i < N->v < W->wait i v + (if v=hi i then th i else 0) + (if v=lo i then bk i else 0)<=amt (i + 1) v
 out_:∀ i v,i < N->v < W->out i v=wait i v + (if v=lo i then th i else 0) + (if v=hi i then bk i else 0)
 last:∀ v,v < W->out N v=0
 thr:∀ i v,i<=N->v < W->¬ (i=z/\v=w0)->amt i v=out i v
def mv27 (lo hi:Nat->Nat) (g:Nat->Option Nat) (i v:Nat):Nat:=if g i=some v then (if v=lo i then hi i else lo i) else v
def Two27 (amt:Nat->Nat->Int) (W i v1 v2:Nat):Prop:=v1 < W/\v2 < W/\((v1=v2/\2<=amt i v1)\/(v1≠v2/\1<=amt i v1/\1<=amt i v2))
section
variable {N W:Nat}{lo hi:Nat->Nat}{wait:Nat->Nat->Int}{th bk:Nat->Int}{g:Nat->Option Nat}{amt out:Nat->Nat->Int}{tot:Int} {a z s0 w0:Nat}
theorem Lay.stay (L:Lay N W lo hi wait th bk g amt out tot a z s0 w0) {i v:Nat} (hi_:i < N) (hv:v < W) (hz:¬ (i=z/\v=w0)) (ng:g i≠some v):amt i v<=amt (i + 1) v:=by
 have h1:=L.nxt i v hi_ hv
 rw [L.thr i v (by omega) hv hz,L.out_ i v hi_ hv]
 have h2:=L.gv i hi_
 have h3:=(L.ne i hi_).1
 by_cases c1:v=lo i
 ·have c2:¬ v=hi i:=λe=>h3 (c1.symm.trans e)
  rw [if_pos c1,if_neg c2] at *
  rcases h2 with ⟨_,e,_⟩ | ⟨e,_,_⟩ | ⟨_,e1,e2⟩
  ·omega
  ·exact absurd (by rw [e,c1]) ng
  ·omega
 ·by_cases c2:v=hi i
  ·rw [if_neg c1,if_pos c2] at *
   rcases h2 with ⟨_,e,_⟩ | ⟨_,e1,e2⟩ | ⟨e,_,_⟩
   ·omega
   ·omega
   ·exact absurd (by rw [e,c2]) ng
  ·rw [if_neg c1,if_neg c2] at *;omega
theorem Lay.give (L:Lay N W lo hi wait th bk g amt out tot a z s0 w0) {i v:Nat} (hi_:i < N) (hg:g i=some v):mv27 lo hi g i v≠v/\mv27 lo hi g i v < W/\v < W/\1<=amt (i + 1) (mv27 lo hi g i v)/\(¬ (i=z/\mv27 lo hi g i v=w0)->amt i (mv27 lo hi g i v) + 1<=amt (i + 1) (mv27 lo hi g i v))/\(¬ (i=z/\v=w0)->amt i v - 1<=amt (i + 1) v):=by
 obtain ⟨h3,h4,h5⟩:=L.ne i hi_
 unfold mv27
 rw [if_pos hg]
 rcases L.gv i hi_ with ⟨e,_⟩ | ⟨e,e1,e2⟩ | ⟨e,e1,e2⟩
 ·rw [e] at hg;cases hg
 ·obtain rfl:v=lo i:=by rw [e] at hg;exact (Option.some.inj hg).symm
  rw [if_pos rfl]
  have n1:=L.nxt i (hi i) hi_ h5
  have n2:=L.nxt i (lo i) hi_ h4
  have p1:=L.pos i (hi i)
  rw [if_pos rfl,if_neg (Ne.symm h3)] at n1
  rw [if_neg h3,if_pos rfl] at n2
  refine ⟨Ne.symm h3,h5,h4,by omega,λhz=>?_,λhz=>?_⟩
  ·rw [L.thr i _ (by omega) h5 hz,L.out_ i _ hi_ h5,if_neg (Ne.symm h3),if_pos rfl];omega
  ·rw [L.thr i _ (by omega) h4 hz,L.out_ i _ hi_ h4,if_pos rfl,if_neg h3];omega
 ·obtain rfl:v=hi i:=by rw [e] at hg;exact (Option.some.inj hg).symm
  rw [if_neg (Ne.symm h3)]
  have n1:=L.nxt i (lo i) hi_ h4
  have n2:=L.nxt i (hi i) hi_ h5
  have p1:=L.pos i (lo i)
  rw [if_neg h3,if_pos rfl] at n1
  rw [if_pos rfl,if_neg (Ne.symm h3)] at n2
  refine ⟨h3,h4,h5,by omega,λhz=>?_,λhz=>?_⟩
  ·rw [L.thr i _ (by omega) h4 hz,L.out_ i _ hi_ h4,if_pos rfl,if_neg h3];omega
  ·rw [L.thr i _ (by omega) h5 hz,L.out_ i _ hi_ h5,if_neg (Ne.symm h3),if_pos rfl];omega
theorem Lay.two (L:Lay N W lo hi wait th bk g amt out tot a z s0 w0) {i v1 v2:Nat} (hi_:i < N) (hz:i≠z) (t:Two27 amt W i v1 v2):Two27 amt W (i + 1) (mv27 lo hi g i v1) (if g i=some v1 then v2 else mv27 lo hi g i v2):=by
 have nz:∀ v,¬ (i=z/\v=w0):=λv h=>hz h.1
 obtain ⟨w1,w2,t⟩:=t
 by_cases c1:g i=some v1
 ·rw [if_pos c1]
  obtain ⟨m1,m2,m3,m4,m5,m6⟩:=L.give hi_ c1
  refine ⟨m2,w2,?_⟩
  rcases t with ⟨rfl,t⟩ | ⟨ne,t1,t2⟩
  ·exact .inr ⟨m1,m4,by have:=m6 (nz _);omega⟩
  ·have st:=L.stay hi_ w2 (nz _) (λe=>ne (by rw [c1] at e;exact Option.some.inj e))
   by_cases c2:mv27 lo hi g i v1=v2
   ·exact .inl ⟨c2,by have:=m5 (nz _);rw [c2] at this ⊢;omega⟩
   ·exact .inr ⟨c2,m4,by omega⟩
 ·rw [if_neg c1]
  have e1:mv27 lo hi g i v1=v1:=by unfold mv27;rw [if_neg c1]
  rw [e1]
  have st1:=L.stay hi_ w1 (nz _) c1
  by_cases c2:g i=some v2
  ·obtain ⟨m1,m2,m3,m4,m5,m6⟩:=L.give hi_ c2
   refine ⟨w1,m2,?_⟩
   rcases t with ⟨rfl,t⟩ | ⟨ne,t1,t2⟩
   ·exact absurd c2 c1
   ·by_cases c3:v1=mv27 lo hi g i v2
    ·exact .inl ⟨c3,by have:=m5 (nz _);rw [<-c3] at this;omega⟩
    ·exact .inr ⟨c3,by omega,m4⟩
  ·have e2:mv27 lo hi g i v2=v2:=by unfold mv27;rw [if_neg c2]
   rw [e2]
   have st2:=L.stay hi_ w2 (nz _) c2
   refine ⟨w1,w2,?_⟩
   rcases t with ⟨rfl,t⟩ | ⟨ne,t1,t2⟩
   ·exact .inl ⟨rfl,by omega⟩
   ·exact .inr ⟨ne,by omega,by omega⟩
theorem Lay.dead (L:Lay N W lo hi wait th bk g amt out tot a z s0 w0):∀ (k i v:Nat),i + k=N->v < W->z<=i->¬ (i=z/\v=w0)->amt i v<=0
 | 0,i,v,e,hv,_,hz=>by
  obtain rfl:i=N:=by omega
  rw [L.thr i v (zD _) hv hz,L.last v hv];exact zq _
 | k + 1,i,v,e,hv,zi,hz=>by
  have hi_:i < N:=by omega
  by_cases c:g i=some v
  ·obtain ⟨m1,m2,m3,m4,m5,m6⟩:=L.give hi_ c
   have d:=L.dead k (i + 1) (mv27 lo hi g i v) (by omega) m2 (by omega) (by omega)
   omega
  ·have:=L.stay hi_ hv hz c
   have d:=L.dead k (i + 1) v (by omega) hv (by omega) (by omega)
   omega
theorem Lay.ends (L:Lay N W lo hi wait th bk g amt out tot a z s0 w0) (zN:z<=N) {v1 v2:Nat} (t:Two27 amt W z v1 v2):v1=w0/\v2=w0:=by
 obtain ⟨w1,w2,t⟩:=t
 have d:∀ v,v < W->v≠w0->amt z v<=0:=λv hv ne=>L.dead (N - z) z v (by omega) hv (zD _) λh=>ne h.2
 by_cases c1:v1=w0
 ·by_cases c2:v2=w0
  ·exact ⟨c1,c2⟩
  ·have:=d v2 w2 c2
   rcases t with ⟨e,t⟩ | ⟨_,_,t⟩
   ·subst e;omega
   ·omega
 ·have:=d v1 w1 c1
  rcases t with ⟨_,t⟩ | ⟨_,t,_⟩ <;> omega
end
end Sm
namespace Sm
open PySem L2 SmSort
def lo27 (ms:List M4) (i:Nat):Nat:=(ms[i]?.map λm=>m.lo.toNat).getD 0
def hi27 (ms:List M4) (i:Nat):Nat:=(ms[i]?.map λm=>m.hi.toNat).getD 0
def tW27 (ms:List M4) (W i:Nat):List Tie:=(waysN ms i).map λy=>⟨y.n * W + y.w.g,y.n * W + W + y.w.o,1⟩
def ties27 (ms:List M4) (W:Nat):List Tie:=tW27 ms W ms.length++(List.range (W * ms.length)).map λq=>⟨q,q + W,2⟩
theorem tW_succ {ms:List M4}{W i:Nat} (h:i < ms.length):tW27 ms W (i + 1)=tW27 ms W i++[⟨i * W + lo27 ms i,i * W + W + hi27 ms i,1⟩,⟨i * W + hi27 ms i,i * W + W + lo27 ms i,1⟩]:=by
 have e:ms[i]?=some ms[i]:=zL h
 unfold tW27 lo27 hi27
 rw [waysN_succ e,zK,e]
 rfl
theorem tW_len {ms:List M4}{W:Nat}:∀ i,i<=ms.length->(tW27 ms W i).length=2 * i
 | 0,_=>rfl
 | i + 1,h=>by rw [tW_succ (by omega),zE,tW_len i (by omega)];show 2 * i + 2=_;omega
theorem tW_get {ms:List M4}{W j:Nat}:∀ i,i<=ms.length->j < i->(tW27 ms W i)[2 * j]?=some ⟨j * W + lo27 ms j,j * W + W + hi27 ms j,1⟩/\(tW27 ms W i)[2 * j + 1]?=some ⟨j * W + hi27 ms j,j * W + W + lo27 ms j,1⟩
 | 0,_,h=>by omega
 | i + 1,hi,h=>by
  have l:=tW_len (ms:=ms) (W:=W) i (by omega)
  rw [tW_succ (by omega)]
  by_cases c:j < i
  ·rw [zV (by omega),zV (by omega)]
   exact tW_get i (by omega) c
  ·obtain rfl:j=i:=by omega
   rw [zY (by omega),zY (by omega),l,xJ,show 2 * j + 1 - 2 * j=1 by omega]
   exact ⟨rfl,rfl⟩
theorem ties_way {ms:List M4}{W j:Nat} (h:j < ms.length):(ties27 ms W)[2 * j]?=some ⟨j * W + lo27 ms j,j * W + W + hi27 ms j,1⟩/\(ties27 ms W)[2 * j + 1]?=some ⟨j * W + hi27 ms j,j * W + W + lo27 ms j,1⟩:=by
 have l:=tW_len (ms:=ms) (W:=W) ms.length (zD _)
 unfold ties27
 rw [zV (by omega),zV (by omega)]
 exact tW_get _ (zD _) h
theorem ties_wait {ms:List M4}{W q:Nat} (h:q < W * ms.length):(ties27 ms W)[2 * ms.length + q]?=some ⟨q,q + W,2⟩:=by
 have l:=tW_len (ms:=ms) (W:=W) ms.length (zD _)
 unfold ties27
 rw [zY (by omega),l,show 2 * ms.length + q - 2 * ms.length=q by omega,zS,yn h]
 rfl
theorem ties_len {ms:List M4}{W:Nat}:(ties27 ms W).length=2 * ms.length + W * ms.length:=by
 unfold ties27
 rw [zE,tW_len _ (zD _),zA,yD]
theorem pt_eq {W j u i v:Nat} (hu:u < W) (hv:v < W):j * W + u=i * W + v↔j=i/\u=v:=by
 constructor
 ·intro h
  have e1:(j * W + u) / W=j:=by rw [Nat.add_comm,Nat.add_mul_div_right _ _ (by omega),Nat.div_eq_of_lt hu];omega
  have e2:(i * W + v) / W=i:=by rw [Nat.add_comm,Nat.add_mul_div_right _ _ (by omega),Nat.div_eq_of_lt hv];omega
  rw [h,e2] at e1
  subst e1
  exact ⟨rfl,by omega⟩
 ·rintro ⟨rfl,rfl⟩;rfl
def th27 (sp:List Int) (j:Nat):Int:=at0 sp (2 * (2 * j) + 1)
def bk27 (sp:List Int) (j:Nat):Int:=at0 sp (2 * (2 * j + 1) + 1)
def wt27 (ms:List M4) (W:Nat) (sp:List Int) (i v:Nat):Int:=at0 sp (2 * (2 * ms.length + (i * W + v)) + 1)
theorem net_ways {ms:List M4}{W i v:Nat}{sp:List Int} (hv:v < W) (ins:∀ j,j < ms.length->lo27 ms j < W/\hi27 ms j < W):∀ j,j<=ms.length->net (ties27 ms W) sp (i * W + v) (2 * j)=(if 1<=i/\i<=j then (if v=hi27 ms (i - 1) then th27 sp (i - 1) else 0) + (if v=lo27 ms (i - 1) then bk27 sp (i - 1) else 0) else 0) - (if i < j then (if v=lo27 ms i then th27 sp i else 0) + (if v=hi27 ms i then bk27 sp i else 0) else 0)
 | 0,_=>by
  rw [if_neg (by omega),if_neg (by omega)];rfl
 | j + 1,hj=>by
  obtain ⟨g1,g2⟩:=ties_way (W:=W) (show j < ms.length by omega)
  obtain ⟨i1,i2⟩:=ins j (by omega)
  have ih:=net_ways (sp:=sp) (i:=i) hv ins j (by omega)
  rw [show 2 * (j + 1)=2 * j + 1 + 1 by omega,net_step g2,net_step g1,ih]
  have e1:j * W + W + hi27 ms j=i * W + v↔j + 1=i/\hi27 ms j=v:=by rw [<-pt_eq i2 hv,yQ]
  have e2:j * W + W + lo27 ms j=i * W + v↔j + 1=i/\lo27 ms j=v:=by rw [<-pt_eq i1 hv,yQ]
  have e3:=pt_eq (j:=j) (i:=i) i1 hv
  have e4:=pt_eq (j:=j) (i:=i) i2 hv
  simp only [e1,e2,e3,e4]
  show _ + th27 sp j * _ + bk27 sp j * _=_
  have k1:∀ (s:Int) (u:Nat),s * (if u=v then 1 else 0)=if v=u then s else 0:=λs u=>by
   by_cases c:u=v
   ·rw [if_pos c,if_pos c.symm,Int.mul_one]
   ·rw [if_neg c,if_neg (λe=>c e.symm),xT]
  by_cases c1:j + 1=i
  ·subst c1
   have n1:¬ j=j + 1:=by omega
   rw [if_neg (show ¬ (1<=j + 1/\j + 1<=j) by omega),if_neg (show ¬ j + 1 < j by omega),if_pos (show 1<=j + 1/\j + 1<=j + 1 by omega),if_neg (show ¬ j + 1 < j + 1 by omega),show j + 1 - 1=j by omega]
   simp only [n1,false_and,true_and,if_false,Int.mul_sub,k1,xT]
   omega
  ·by_cases c2:j=i
   ·subst c2
    rw [if_neg (show ¬ j < j by omega),if_pos (show j < j + 1 by omega)]
    have t1:(1<=j/\j<=j)↔(1<=j/\j<=j + 1):=by omega
    simp only [c1,t1,false_and,true_and,if_false,Int.mul_sub,k1,xT]
    omega
   ·have t1:(1<=i/\i<=j)↔(1<=i/\i<=j + 1):=by omega
    have t2:i < j↔i < j + 1:=by omega
    simp only [c1,c2,t1,t2,false_and,if_false]
    omega
theorem net_wait {ms:List M4}{W p:Nat}{sp:List Int} (W1:1<=W):∀ q,q<=W * ms.length->net (ties27 ms W) sp p (2 * ms.length + q)=net (ties27 ms W) sp p (2 * ms.length) + (if W<=p/\p - W < q then at0 sp (2 * (2 * ms.length + (p - W)) + 1) else 0) - (if p < q then at0 sp (2 * (2 * ms.length + p) + 1) else 0)
 | 0,_=>by
  rw [if_neg (by omega),if_neg (by omega)];show net _ _ _ (2 * ms.length)=_;omega
 | q + 1,hq=>by
  have ih:=net_wait (ms:=ms) (sp:=sp) (p:=p) W1 q (by omega)
  have g:=ties_wait (ms:=ms) (W:=W) (show q < W * ms.length by omega)
  rw [show 2 * ms.length + (q + 1)=2 * ms.length + q + 1 by omega,net_step g,ih]
  dsimp only
  generalize net (ties27 ms W) sp p (2 * ms.length)=X
  by_cases c1:q + W=p
  ·subst c1
   rw [if_neg (show ¬ (W<=q + W/\q + W - W < q) by omega),if_neg (show ¬ q + W < q by omega),if_pos rfl,if_neg (show ¬ q=q + W by omega),if_pos (show W<=q + W/\q + W - W < q + 1 by omega),if_neg (show ¬ q + W < q + 1 by omega),show q + W - W=q by omega];omega
  ·by_cases c2:q=p
   ·subst c2
    rw [if_neg (show ¬ q < q by omega),if_neg c1,if_pos rfl,if_pos (show q < q + 1 by omega)]
    have t1:(W<=q/\q - W < q)↔(W<=q/\q - W < q + 1):=by omega
    simp only [t1];omega
   ·have t1:(W<=p/\p - W < q)↔(W<=p/\p - W < q + 1):=by omega
    have t2:p < q↔p < q + 1:=by omega
    rw [if_neg c1,if_neg c2]
    simp only [t1,t2];omega
end Sm
namespace Sm
open PySem L2 SmSort
def inn27 (ms:List M4) (W:Nat) (sp:List Int):Nat->Nat->Int
 | 0,_=>0
 | i + 1,v=>wt27 ms W sp i v + (if v=hi27 ms i then th27 sp i else 0) + (if v=lo27 ms i then bk27 sp i else 0)
def out27 (ms:List M4) (W:Nat) (sp:List Int) (i v:Nat):Int:=if i < ms.length then wt27 ms W sp i v + (if v=lo27 ms i then th27 sp i else 0) + (if v=hi27 ms i then bk27 sp i else 0) else 0
theorem net_point {ms:List M4}{W i v:Nat}{sp:List Int} (hv:v < W) (ins:∀ j,j < ms.length->lo27 ms j < W/\hi27 ms j < W) (hi_:i<=ms.length):net (ties27 ms W) sp (i * W + v) (ties27 ms W).length=inn27 ms W sp i v - out27 ms W sp i v:=by
 rw [ties_len,net_wait (by omega) _ (zD _),net_ways hv ins _ (zD _)]
 have lt:i * W + v < W * ms.length↔i < ms.length:=by
  constructor
  ·intro h
   by_cases c:i < ms.length
   ·exact c
   ·obtain rfl:i=ms.length:=by omega
    rw [xR W] at h;omega
  ·intro h
   have:(i + 1) * W<=ms.length * W:=Nat.mul_le_mul_right _ h
   rw [yQ] at this
   rw [xR W];omega
 cases i with
 | zero=>
  rw [if_neg (show ¬ (1<=0/\0<=ms.length) by omega),if_neg (show ¬ (W<=0 * W + v/\0 * W + v - W < W * ms.length) from λh=>by rw [Nat.zero_mul] at h;omega)]
  unfold out27
  by_cases c:0 < ms.length
  ·rw [if_pos c,if_pos c,if_pos (lt.mpr c)]
   show _=0 - (wt27 ms W sp 0 v + _ + _)
   unfold wt27;omega
  ·rw [if_neg c,if_neg c,if_neg (λh=>c (lt.mp h))];show _=(0:Int) - 0;omega
 | succ i=>
  have e1:(i + 1) * W + v - W=i * W + v:=by rw [yQ];omega
  have lt2:i * W + v < W * ms.length:=by
   have:(i + 1) * W<=ms.length * W:=Nat.mul_le_mul_right _ hi_
   rw [yQ] at this
   rw [xR W];omega
  rw [e1,if_pos (show 1<=i + 1/\i + 1<=ms.length by omega),if_pos (show W<=(i + 1) * W + v/\i * W + v < W * ms.length from ⟨by rw [yQ];omega,lt2⟩),show i + 1 - 1=i by omega]
  unfold out27
  show _=wt27 ms W sp i v + _ + _ - _
  by_cases c:i + 1 < ms.length
  ·rw [if_pos c,if_pos c,if_pos (lt.mpr c)]
   unfold wt27;omega
  ·rw [if_neg c,if_neg c,if_neg (λh=>c (lt.mp h))]
   unfold wt27;omega
theorem at0_nn {ts:List Tie}{sp:List Int} (s:Sound ts sp) (a:Nat):0<=at0 sp a:=by
 by_cases c:a < 2 * ts.length
 ·exact s.pos a c
 ·unfold at0;rw [List.getElem?_eq_none (by rw [s.len];omega)];exact zq _
def giv27 (ms:List M4) (sp:List Int) (i:Nat):Option Nat:=if th27 sp i=bk27 sp i then none else if bk27 sp i < th27 sp i then some (lo27 ms i) else some (hi27 ms i)
theorem lay27 {ms:List M4}{W:Nat}{sp:List Int}{tot:Int} {a z s0 w0:Nat} (s:Sound (ties27 ms W) sp) (t0:0<=tot) (ins:∀ j,j < ms.length->lo27 ms j≠hi27 ms j/\lo27 ms j < W/\hi27 ms j < W) (hs:s0 < W) (hw:w0 < W)
  (nt:∀ p,net (ties27 ms W) sp p (ties27 ms W).length=tot * ((if z * W + w0=p then 1 else 0) - (if a * W + s0=p then 1 else 0))) :
  Lay ms.length W (lo27 ms) (hi27 ms) (wt27 ms W sp) (th27 sp) (bk27 sp) (giv27 ms sp) (λi v=>inn27 ms W sp i v + tot * (if a=i/\s0=v then 1 else 0)) (out27 ms W sp) tot a z s0 w0:=by
 refine ⟨ins,λi v=>at0_nn s _,λi hi_=>?_,λi v hi_ hv=>?_,λi v hi_ hv=>?_,λv hv=>?_,λi v hi_ hv hz=>?_⟩
 ·obtain ⟨g1,g2⟩:=ties_way (W:=W) hi_
  have w1:=sent_within s g1
  have w2:=sent_within s g2
  have w1:0<=th27 sp i/\th27 sp i<=1:=w1
  have w2:0<=bk27 sp i/\bk27 sp i<=1:=w2
  unfold giv27
  by_cases c1:th27 sp i=bk27 sp i
  ·rw [if_pos c1];exact .inl ⟨rfl,c1,w1.1⟩
  ·rw [if_neg c1]
   by_cases c2:bk27 sp i < th27 sp i
   ·rw [if_pos c2];exact .inr (.inl ⟨rfl,by omega,by omega⟩)
   ·rw [if_neg c2];exact .inr (.inr ⟨rfl,by omega,by omega⟩)
 ·have:0<=tot * (if a=i + 1/\s0=v then 1 else 0):=by split <;> omega
  show _<=inn27 ms W sp (i + 1) v + tot * (if a=i + 1/\s0=v then 1 else 0)
  show _<=wt27 ms W sp i v + _ + _ + _
  omega
 ·unfold out27;rw [if_pos hi_]
 ·unfold out27;rw [if_neg (by omega)]
 ·have h:=nt (i * W + v)
  rw [net_point hv (λj hj=>(ins j hj).2) hi_] at h
  have e1:=pt_eq (j:=z) (i:=i) hw hv
  have e2:=pt_eq (j:=a) (i:=i) hs hv
  simp only [e1,e2] at h
  rw [if_neg (show ¬ (z=i/\w0=v) from λe=>hz ⟨e.1.symm,e.2.symm⟩),Int.mul_sub,xT] at h
  show inn27 ms W sp i v + tot * (if a=i/\s0=v then 1 else 0)=_
  omega
end Sm
namespace Sm
open PySem L2 SmSort
theorem cutS_step {ts:List Tie}{S:List Nat}{i:Nat}{x:Tie} (hx:ts[i]?=some x):cutS ts S (i + 1)=cutS ts S i + (if x.h∈S/\x.t ∉ S then x.m else 0):=by
 show cutS ts S i + (match ts[i]? with | some x=>_ | none=>_)=_
 rw [hx]
theorem cutS_mono {ts:List Tie}{S:List Nat} (nn:∀ x∈ts,0<=x.m) (i:Nat):cutS ts S i<=cutS ts S (i + 1):=by
 show _<=cutS ts S i + (match ts[i]? with | some x=>_ | none=>_)
 cases h:ts[i]? with
 | none=>dsimp only;omega
 | some x=>
  dsimp only
  have:=nn x (zC h)
  split <;> omega
theorem cutS_nn {ts:List Tie}{S:List Nat} (nn:∀ x∈ts,0<=x.m):∀ i,0<=cutS ts S i
 | 0=>zq _
 | i + 1=>Int.le_trans (cutS_nn nn i) (cutS_mono nn i)
theorem cutS_one {ts:List Tie}{S:List Nat} (nn:∀ x∈ts,0<=x.m) {k:Nat}{x:Tie} (hx:ts[k]?=some x) (c:x.h∈S/\x.t ∉ S):∀ i,k < i->x.m<=cutS ts S i
 | 0,h=>by omega
 | i + 1,h=>by
  by_cases e:k=i
  ·subst e
   rw [cutS_step hx,if_pos c]
   have:=cutS_nn (S:=S) nn k
   omega
  ·exact Int.le_trans (cutS_one nn hx c i (by omega)) (cutS_mono nn i)
theorem cutS_two {ts:List Tie}{S:List Nat} (nn:∀ x∈ts,0<=x.m) {k l:Nat}{x y:Tie} (hx:ts[k]?=some x) (hy:ts[l]?=some y) (kl:k < l) (c:x.h∈S/\x.t ∉ S) (d:y.h∈S/\y.t ∉ S):∀ i,l < i->x.m + y.m<=cutS ts S i
 | 0,h=>by omega
 | i + 1,h=>by
  by_cases e:l=i
  ·subst e
   rw [cutS_step hy,if_pos d]
   have:=cutS_one nn hx c l kl
   omega
  ·exact Int.le_trans (cutS_two nn hx hy kl c d i (by omega)) (cutS_mono nn i)
theorem ties_nn {ms:List M4}{W:Nat}:∀ x∈ties27 ms W,0<=x.m:=by
 intro x hx
 unfold ties27 tW27 at hx
 rcases zT.mp hx with h | h
 ·obtain ⟨y,_,rfl⟩:=zQ.mp h;show (0:Int)<=1;decide
 ·obtain ⟨y,_,rfl⟩:=zQ.mp h;show (0:Int)<=2;decide
def Leave27 (ms:List M4) (W:Nat) (S:List Nat) (j:Nat):Prop:=(j * W + lo27 ms j∈S/\j * W + W + hi27 ms j ∉ S)\/(j * W + hi27 ms j∈S/\j * W + W + lo27 ms j ∉ S)
theorem cut_few {ms:List M4}{W:Nat}{S:List Nat} (h:cutS (ties27 ms W) S (ties27 ms W).length < 2):(∀ q,q < W * ms.length->q∈S->q + W∈S)/\∀ j l,j < ms.length->l < ms.length->Leave27 ms W S j->Leave27 ms W S l->j=l:=by
 rw [ties_len] at h
 constructor
 ·intro q hq hS
  refine Classical.byContradiction λc=>?_
  have:=cutS_one (S:=S) ties_nn (ties_wait (ms:=ms) (W:=W) hq) ⟨hS,c⟩ (2 * ms.length + W * ms.length) (by omega)
  have this:(2:Int)<=cutS (ties27 ms W) S (2 * ms.length + W * ms.length):=this
  omega
 ·intro j l hj hl lj ll
  have key:∀ j l,j < ms.length->l < ms.length->Leave27 ms W S j->Leave27 ms W S l->¬ j < l:=λj l hj hl lj ll lt=>by
   obtain ⟨a1,a2⟩:=ties_way (W:=W) hj
   obtain ⟨b1,b2⟩:=ties_way (W:=W) hl
   have fin:∀ {k k':Nat}{x y:Tie},(ties27 ms W)[k]?=some x->(ties27 ms W)[k']?=some y->k < k'->k' < 2 * ms.length->x.m=1->y.m=1->(x.h∈S/\x.t ∉ S)->(y.h∈S/\y.t ∉ S)->False:=λhx hy kk kn e1 e2 c d=>by
    have:=cutS_two (S:=S) ties_nn hx hy kk c d (2 * ms.length + W * ms.length) (by omega)
    omega
   rcases lj with c | c <;> rcases ll with d | d
   ·exact fin a1 b1 (by omega) (by omega) rfl rfl c d
   ·exact fin a1 b2 (by omega) (by omega) rfl rfl c d
   ·exact fin a2 b1 (by omega) (by omega) rfl rfl c d
   ·exact fin a2 b2 (by omega) (by omega) rfl rfl c d
  have h1:=key j l hj hl lj ll
  have h2:=key l j hl hj ll lj
  omega
end Sm
namespace Sm
open PySem L2 SmSort
def hold27 (ms:List M4) (n:Nat) (st:Fn):Nat->Fn
 | 0=>st
 | i + 1=>if i=n then hold27 ms n st i else (match ms[i]? with
  | some m=>fstep (fstep (hold27 ms n st i) ⟨m.lo.toNat,m.hi.toNat,m.t⟩) ⟨m.hi.toNat,m.lo.toNat,m.t⟩
  | none=>hold27 ms n st i)
theorem fstep_has {st:Fn}{w:W3}{v:Nat} (h:fstep st w v≠none):st v≠none\/(v=w.o/\st w.g≠none):=by
 unfold fstep at h
 split at h
 ·rename_i c
  by_cases e:v=w.o
  ·refine .inr ⟨e,λz=>?_⟩
   rw [z] at c;exact absurd c.2 (by simp [below])
  ·left
   intro z
   apply h
   unfold put
   rw [if_neg e];exact z
 ·exact .inl h
theorem fstep_two {st:Fn}{l h:Nat}{t:Int}{v:Nat} (hv:fstep (fstep st ⟨l,h,t⟩) ⟨h,l,t⟩ v≠none):st v≠none\/(v=h/\st l≠none)\/(v=l/\st h≠none):=by
 rcases fstep_has hv with h1 | ⟨rfl,h1⟩
 ·rcases fstep_has h1 with h2 | ⟨rfl,h2⟩
  ·exact .inl h2
  ·exact .inr (.inl ⟨rfl,h2⟩)
 ·rcases fstep_has h1 with h2 | ⟨_,h2⟩
  ·exact .inr (.inr ⟨rfl,h2⟩)
  ·exact .inl h2
theorem fstep_lone {s0 g o:Nat}{x t:Int} (h:t<=x):fstep (lone s0 x) ⟨g,o,t⟩=lone s0 x:=by
 unfold fstep
 rw [if_neg]
 rintro ⟨_,h2⟩
 obtain ⟨y,e,lt⟩:=below_iff.mp h2
 have e:lone s0 x g=some y:=e
 unfold lone at e
 split at e
 ·cases e;have lt:x < t:=lt;omega
 ·cases e
theorem hold_early {ms:List M4} {n s0 a:Nat}{x:Int} (early:∀ (j:Nat) m,j < a->ms[j]?=some m->m.t<=x):∀ i,i<=a->hold27 ms n (lone s0 x) i=lone s0 x
 | 0,_=>rfl
 | i + 1,h=>by
  have ih:=hold_early (n:=n) (s0:=s0) early i (by omega)
  show (if i=n then _ else _)=_
  rw [ih]
  split
  ·rfl
  ·split
   ·rename_i m hm
    have:=early i m (by omega) hm
    rw [fstep_lone this,fstep_lone this]
   ·rfl
theorem hold_near {ms:List M4} {W n s0 a:Nat}{x:Int}{S:List Nat} (early:∀ (j:Nat) m,j < a->ms[j]?=some m->m.t<=x) (hs:a * W + s0∈S)
  (wait:∀ q,q < W * ms.length->q∈S->q + W∈S) (ways:∀ j,j < ms.length->j≠n->¬ Leave27 ms W S j) (ins:∀ j,j < ms.length->lo27 ms j < W/\hi27 ms j < W):∀ i,a<=i->i<=ms.length->∀ v,v < W->hold27 ms n (lone s0 x) i v≠none->i * W + v∈S
 | i,ai,iN,v,hv,h=>by
  by_cases e:i=a
  ·subst e
   rw [hold_early early i (zD _)] at h
   unfold lone at h
   split at h
   ·rename_i c;rw [c];exact hs
   ·exact absurd rfl h
  ·match i,e,ai,iN,h with
   | 0,e,ai,_,_=>omega
   | i + 1,e,ai,iN,h=>
    have ih:=hold_near early hs wait ways ins i (by omega) (by omega)
    have inW:∀ u,u < W->i * W + u < W * ms.length:=λu hu=>by
     have:(i + 1) * W<=ms.length * W:=Nat.mul_le_mul_right _ iN
     rw [yQ] at this
     rw [xR W];omega
    have stay:∀ u,u < W->hold27 ms n (lone s0 x) i u≠none->(i + 1) * W + u∈S:=λu hu hh=>by
     have:=wait _ (inW u hu) (ih u hu hh)
     rw [yQ,show i * W + W + u=i * W + u + W by omega];exact this
    have h:(if i=n then hold27 ms n (lone s0 x) i else (match ms[i]? with
     | some m=>fstep (fstep (hold27 ms n (lone s0 x) i) ⟨m.lo.toNat,m.hi.toNat,m.t⟩) ⟨m.hi.toNat,m.lo.toNat,m.t⟩
     | none=>hold27 ms n (lone s0 x) i)) v≠none:=h
    by_cases c:i=n
    ·rw [if_pos c] at h;exact stay v hv h
    ·rw [if_neg c] at h
     have nl:=ways i (by omega) c
     cases hm:ms[i]? with
     | none=>rw [hm] at h;exact stay v hv h
     | some m=>
      rw [hm] at h
      have el:lo27 ms i=m.lo.toNat:=by unfold lo27;rw [hm];rfl
      have eh:hi27 ms i=m.hi.toNat:=by unfold hi27;rw [hm];rfl
      unfold Leave27 at nl
      rw [el,eh] at nl
      rcases fstep_two h with h1 | ⟨rfl,h1⟩ | ⟨rfl,h1⟩
      ·exact stay v hv h1
      ·have b:=(ins i (by omega)).1
       rw [el] at b
       have:=ih _ b h1
       rw [yQ]
       exact Classical.byContradiction λz=>nl (.inl ⟨this,z⟩)
      ·have b:=(ins i (by omega)).2
       rw [eh] at b
       have:=ih _ b h1
       rw [yQ]
       exact Classical.byContradiction λz=>nl (.inr ⟨this,z⟩)
theorem hold_fwd {ms:List M4}{n:Nat}{st:Fn} (hn:ms.length<=n):∀ i,i<=ms.length->hold27 ms n st i=fwd (ms.take i) st
 | 0,_=>rfl
 | i + 1,h=>by
  have ih:=hold_fwd (st:=st) hn i (by omega)
  have e:ms[i]?=some ms[i]:=zL (by omega)
  show (if i=n then _ else _)=_
  rw [if_neg (by omega),ih,yq,fwd_append,e]
  rfl
theorem hold_rest {ms:List M4}{n:Nat}{st:Fn} (hn:n < ms.length):∀ i,i<=ms.length->hold27 ms n st i=fwd ((ms.take i).eraseIdx n) st
 | 0,_=>rfl
 | i + 1,h=>by
  have ih:=hold_rest (st:=st) hn i (by omega)
  have e:ms[i]?=some ms[i]:=zL (by omega)
  have li:(ms.take i).length=i:=by rw [zX];omega
  show (if i=n then _ else _)=_
  rw [ih,yq,e]
  by_cases c:i=n
  ·subst c
   rw [if_pos rfl,List.eraseIdx_append_of_length_le (by omega),li,xJ,yC (by omega)]
   show _=fwd (ms.take i++[]) st
   rw [zn]
  ·rw [if_neg c]
   by_cases d:i < n
   ·rw [yC (by omega),yC (by rw [zE,li];show i + 1<=n;omega),fwd_append]
    rfl
   ·rw [List.eraseIdx_append_of_lt_length (by omega),fwd_append]
    rfl
theorem two_least {ms:List M4} {W s0 w0 a z:Nat}{x:Int}{S:List Nat}{tot:Int} (early:∀ (j:Nat) m,j < a->ms[j]?=some m->m.t<=x) (ins:∀ j,j < ms.length->lo27 ms j < W/\hi27 ms j < W) (az:a<=z) (zN:z<=ms.length) (hw:w0 < W) (hs:a * W + s0∈S) (hg:z * W + w0 ∉ S) (ct:cutS (ties27 ms W) S (ties27 ms W).length=tot)
  (all:fwd (ms.take z) (lone s0 x) w0≠none) (each:∀ n,n < z->fwd ((ms.take z).eraseIdx n) (lone s0 x) w0≠none):2<=tot:=by
 refine Classical.byContradiction λc=>?_
 obtain ⟨wait,one⟩:=cut_few (ms:=ms) (W:=W) (S:=S) (by omega)
 by_cases ex:∃ n,n < ms.length/\Leave27 ms W S n
 ·obtain ⟨n,hn,ln⟩:=ex
  have h:=hold_near (n:=n) early hs wait (λj hj ne lj=>ne (one j n hj hn lj ln)) ins z az zN w0 hw
  rw [hold_rest hn z zN] at h
  by_cases d:n < z
  ·exact hg (h (each n d))
  ·rw [yC (by rw [zX];omega)] at h
   exact hg (h all)
 ·have h:=hold_near (n:=ms.length) early hs wait (λj hj _ lj=>ex ⟨j,hj,lj⟩) ins z az zN w0 hw
  rw [hold_fwd (zD _) z zN] at h
  exact hg (h all)
end Sm
namespace Sm
open PySem L2 SmSort
theorem two_t27 {m:M4}{x:W3} (h:x∈two m):x.t=m.t:=by
 unfold two at h
 rcases zH.mp h with rfl | h
 ·rfl
 ·cases zF.mp h;rfl
theorem cnt_lt:∀ {ms:List M4}{t:Int},(ms.Pairwise λa b=>a.t<=b.t)->∀ {j:Nat}{m:M4},ms[j]?=some m->(j < cnt ms t↔m.t<=t)
 | [],t,_,j,m,h=>by simp at h
 | a::ms,t,o,j,m,h=>by
  have o:=List.pairwise_cons.mp o
  by_cases c:a.t<=t
  ·have e:cnt (a::ms) t=cnt ms t + 1:=by unfold cnt;rw [List.filter_cons,if_pos (by simp [c])];rfl
   rw [e]
   cases j with
   | zero=>cases h;exact ⟨λ_=>c,λ_=>by omega⟩
   | succ j=>rw [<-cnt_lt (t:=t) o.2 (j:=j) h];omega
  ·have e:cnt (a::ms) t=0:=by
    unfold cnt
    rw [List.filter_cons,if_neg (by simp [c]),List.filter_eq_nil_iff.mpr (λm hm=>by have:=o.1 m hm;simp;omega)];rfl
   rw [e]
   have:a.t<=m.t:=by
    cases j with
    | zero=>cases h;exact zq _
    | succ j=>exact o.1 m (zC h)
   omega
theorem cnt_le (ms:List M4) (t:Int):cnt ms t<=ms.length:=List.length_filter_le _ _
theorem cnt_mono {ms:List M4} (o:ms.Pairwise λa b=>a.t<=b.t) {x z:Int} (h:x<=z):cnt ms x<=cnt ms z:=by
 refine Classical.byContradiction λc=>?_
 have l:=cnt_le ms x
 have e:ms[cnt ms z]?=some ms[cnt ms z]:=zL (by omega)
 have h1:=(cnt_lt (t:=x) o e).mp (by omega)
 have h2:=(cnt_lt (t:=z) o e).mpr (by omega)
 omega
theorem cnt_drop {ms:List M4} (o:ms.Pairwise λa b=>a.t<=b.t) {z:Int}:∀ m∈ms.drop (cnt ms z),z < m.t:=λm hm=>by
 obtain ⟨j,hj⟩:=zy hm
 rw [List.getElem?_drop] at hj
 have:=(cnt_lt (t:=z) o hj)
 omega
theorem fold_after {z:Int}:∀ {ws:List W3}{st:Fn},(∀ x∈ws,z < x.t)->∀ {i:Nat}{y:Int},ws.foldl fstep st i=some y->st i=some y\/z < y
 | [],st,_,i,y,h=>.inl h
 | x::ws,st,hx,i,y,h=>by
  rcases fold_after (ws:=ws) (st:=fstep st x) (λx' h'=>hx x' (.tail _ h')) h with h1 | h1
  ·unfold fstep at h1
   split at h1
   ·unfold put at h1
    split at h1
    ·cases h1;exact .inr (hx x (.head _))
    ·exact .inl h1
   ·exact .inl h1
  ·exact .inr h1
theorem fwd_part {A B:List M4}{st:Fn}{w:Nat}{z:Int} (hB:∀ m∈B,z < m.t) (h:upto (fwd (A++B) st w) z=true):fwd A st w≠none:=by
 obtain ⟨y,hy,le⟩:=upto_iff.mp h
 rw [fwd_append] at hy
 rcases fold_after (λx hx=>by
  obtain ⟨m,hm,hx⟩:=xI.mp hx
  rw [two_t27 hx];exact hB m hm) hy with h1 | h1
 ·rw [h1];exact λz=>nomatch z
 ·omega
theorem hold_keep {ms:List M4}{n v:Nat}{st:Fn}{y:Int}{i:Nat} (h:hold27 ms n st i v=some y):∀ k,hold27 ms n st (i + k) v=some y
 | 0=>h
 | k + 1=>by
  have ih:=hold_keep h k
  show (if i + k=n then hold27 ms n st (i + k) else (match ms[i + k]? with
   | some m=>fstep (fstep (hold27 ms n st (i + k)) ⟨m.lo.toNat,m.hi.toNat,m.t⟩) ⟨m.hi.toNat,m.lo.toNat,m.t⟩
   | none=>hold27 ms n st (i + k))) v=_
  split
  ·exact ih
  ·cases ms[i + k]? with
   | some m=>exact fstep_some (fstep_some ih)
   | none=>exact ih
theorem fstep_val {st:Fn}{x:W3}{v:Nat}{y:Int} (h:fstep st x v=some y):st v=some y\/y=x.t:=by
 unfold fstep at h
 split at h
 ·unfold put at h
  split at h
  ·cases h;exact .inr rfl
  ·exact .inl h
 ·exact .inl h
theorem hold_val {ms:List M4}{n:Nat}{st:Fn}{v:Nat}{y:Int}:∀ {i},hold27 ms n st i v=some y->st v=some y\/∃ (j:Nat) (m:M4),j < i/\ms[j]?=some m/\m.t=y
 | 0,h=>.inl h
 | i + 1,h=>by
  have up:hold27 ms n st i v=some y->st v=some y\/∃ (j:Nat) (m:M4),j < i + 1/\ms[j]?=some m/\m.t=y:=λh=>by
   rcases hold_val h with h | ⟨j,m,lt,h1,h2⟩
   ·exact .inl h
   ·exact .inr ⟨j,m,by omega,h1,h2⟩
  have h:(if i=n then hold27 ms n st i else (match ms[i]? with
   | some m=>fstep (fstep (hold27 ms n st i) ⟨m.lo.toNat,m.hi.toNat,m.t⟩) ⟨m.hi.toNat,m.lo.toNat,m.t⟩
   | none=>hold27 ms n st i)) v=some y:=h
  split at h
  ·exact up h
  ·cases hm:ms[i]? with
   | none=>rw [hm] at h;exact up h
   | some m=>
    rw [hm] at h
    rcases fstep_val h with h | h
    ·rcases fstep_val h with h | h
     ·exact up h
     ·exact .inr ⟨i,m,by omega,hm,h.symm⟩
    ·exact .inr ⟨i,m,by omega,hm,h.symm⟩
theorem fstep_to {st:Fn}{x:W3}{y:Int} (h:st x.g=some y) (lt:y < x.t):fstep st x x.o≠none:=by
 unfold fstep
 by_cases c:st x.o=none
 ·rw [if_pos ⟨c,below_iff.mpr ⟨y,h,lt⟩⟩,put_same];exact λz=>nomatch z
 ·rw [if_neg (λz=>c z.1)];exact c
theorem fstep_not {st:Fn}{x:W3}{v:Nat} (h:st v≠none):fstep st x v≠none:=by
 cases e:st v with
 | none=>exact absurd e h
 | some y=>rw [fstep_some e];exact λz=>nomatch z
theorem walk_late {ms:List M4}:∀ {ns:List Int}{v w:Nat}{t A e:Int},walkM ms v t A ns=some (w,e)->t<=e
 | [],v,w,t,A,e,h=>by
  unfold walkM at h;cases h;exact zq _
 | n::ns,v,w,t,A,e,h=>by
  obtain ⟨m,_,_,_,_,lt,wk⟩:=we h
  have:=walk_late wk
  omega
theorem walk_hold {W:Nat}{ms:List M4} (gd:Good W ms) {n s0:Nat}{x z:Int}{w:Nat}{e:Int} (le:e<=z):∀ {ns:List Int}{v:Nat}{t A:Int},walkM ms v t A ns=some (w,e)->((n:Int) ∉ ns)->x<=t->-1<=A->A + 1<=cnt ms z->(∃ y,y<=t/\hold27 ms n (lone s0 x) (A + 1).toNat v=some y)->hold27 ms n (lone s0 x) (cnt ms z) w≠none
 | [],v,t,A,h,_,_,A1,Az,⟨y,_,hy⟩=>by
  unfold walkM at h;cases h
  have:=hold_keep hy (cnt ms z - (A + 1).toNat)
  rw [show (A + 1).toNat + (cnt ms z - (A + 1).toNat)=cnt ms z by omega] at this
  rw [this];exact λz=>nomatch z
 | k::ns,v,t,A,h,nn,xt,A1,Az,⟨y,yt,hy⟩=>by
  obtain ⟨m,hm,Ak,k0,hv,lt,wk⟩:=we h
  obtain ⟨k,rfl⟩:=zk k0
  rw [zh] at hm
  have me:=walk_late wk
  have kz:=(cnt_lt (t:=z) gd.ord.2 hm).mpr (by omega)
  have nk:¬ k=n:=λe=>nn (by rw [e];exact .head _)
  have hy':=hold_keep hy (k - (A + 1).toNat)
  rw [show (A + 1).toNat + (k - (A + 1).toNat)=k by omega] at hy'
  have hk:hold27 ms n (lone s0 x) (k + 1)=fstep (fstep (hold27 ms n (lone s0 x) k) ⟨m.lo.toNat,m.hi.toNat,m.t⟩) ⟨m.hi.toNat,m.lo.toNat,m.t⟩:=by
   show (if k=n then _ else _)=_
   rw [if_neg nk,hm]
  have got:hold27 ms n (lone s0 x) (k + 1) (if v=m.lo.toNat then m.hi.toNat else m.lo.toNat)≠none:=by
   rw [hk]
   by_cases c:v=m.lo.toNat
   ·rw [if_pos c]
    rw [c] at hy'
    exact fstep_not (fstep_to (x:=⟨m.lo.toNat,m.hi.toNat,m.t⟩) hy' (by show y < m.t;omega))
   ·rw [if_neg c]
    obtain rfl:v=m.hi.toNat:=hv.resolve_left c
    exact fstep_to (x:=⟨m.hi.toNat,m.lo.toNat,m.t⟩) (fstep_some hy') (by show y < m.t;omega)
  refine walk_hold gd le wk (λz=>nn (.tail _ z)) (by omega) (by omega) (by omega) ?_
  rw [show ((k:Int) + 1).toNat=k + 1 by omega]
  cases ey:hold27 ms n (lone s0 x) (k + 1) (if v=m.lo.toNat then m.hi.toNat else m.lo.toNat) with
  | none=>exact absurd ey got
  | some y'=>
   refine ⟨y',?_,rfl⟩
   rcases hold_val ey with h1 | ⟨j,m',jk,hm',rfl⟩
   ·have:∀ u,lone s0 x u=some y'->y'=x:=λu h=>by
     unfold lone at h
     split at h
     ·exact (Option.some.inj h).symm
     ·cases h
    have:=this _ h1
    omega
   ·by_cases c:j=k
    ·subst c;rw [hm] at hm';cases hm';exact zq _
    ·obtain ⟨l1,e1⟩:=zB.mp hm'
     obtain ⟨l2,e2⟩:=zB.mp hm
     have:=zp.mp gd.ord.2 j k l1 l2 (by omega)
     rw [e1,e2] at this;exact this
theorem each27 {W:Nat}{ms:List M4} (gd:Good W ms) {s0 w0:Nat}{x z e:Int}{ns:List Int} (wk:walkM ms s0 x (-1) ns=some (w0,e)) (le:e<=z) (hn:∀ n:Nat,(n:Int)∈ns->upto (fwd (ms.eraseIdx n) (lone s0 x) w0) z=true):fwd (ms.take (cnt ms z)) (lone s0 x) w0≠none/\∀ n,n < cnt ms z->fwd ((ms.take (cnt ms z)).eraseIdx n) (lone s0 x) w0≠none:=by
 have cl:=cnt_le ms z
 constructor
 ·have:=walk_comes47 gd wk
  obtain ⟨y,hy,l⟩:=upto_iff.mp this
  exact fwd_part (B:=ms.drop (cnt ms z)) (z:=z) (cnt_drop gd.ord.2) (by rw [List.take_append_drop];exact upto_iff.mpr ⟨y,hy,by omega⟩)
 ·intro n hn'
  by_cases c:(n:Int)∈ns
  ·refine fwd_part (B:=ms.drop (cnt ms z)) (z:=z) (cnt_drop gd.ord.2) ?_
   rw [<-List.eraseIdx_append_of_lt_length (by rw [zX];omega),List.take_append_drop]
   exact hn n c
  ·rw [<-hold_rest (by omega) _ cl]
   exact walk_hold gd le wk c (zq _) (by omega) (by omega) ⟨x,zq _,by show lone s0 x s0=some x;unfold lone;rw [if_pos rfl]⟩
def run27 (lo hi:Nat->Nat) (g:Nat->Option Nat) (a s0:Nat):Nat->List Int×Nat
 | 0=>([],s0)
 | k + 1=>if g (a + k)=some (run27 lo hi g a s0 k).2 then ((run27 lo hi g a s0 k).1++[((a + k:Nat):Int)],mv27 lo hi g (a + k) (run27 lo hi g a s0 k).2) else run27 lo hi g a s0 k
section
variable {lo hi:Nat->Nat}{g:Nat->Option Nat} {a s0:Nat}
theorem run_yes {k:Nat} (h:g (a + k)=some (run27 lo hi g a s0 k).2):run27 lo hi g a s0 (k + 1)=((run27 lo hi g a s0 k).1++[((a + k:Nat):Int)],mv27 lo hi g (a + k) (run27 lo hi g a s0 k).2):=by
 show (if _ then _ else _)=_;rw [if_pos h]
theorem run_no {k:Nat} (h:¬ g (a + k)=some (run27 lo hi g a s0 k).2):run27 lo hi g a s0 (k + 1)=run27 lo hi g a s0 k:=by
 show (if _ then _ else _)=_;rw [if_neg h]
theorem run_mv (k:Nat):(run27 lo hi g a s0 (k + 1)).2=mv27 lo hi g (a + k) (run27 lo hi g a s0 k).2:=by
 by_cases h:g (a + k)=some (run27 lo hi g a s0 k).2
 ·rw [run_yes h]
 ·rw [run_no h];unfold mv27;rw [if_neg h]
theorem run_mem {n:Int}:∀ {K:Nat},n∈(run27 lo hi g a s0 K).1↔∃ k,k < K/\n=((a + k:Nat):Int)/\g (a + k)=some (run27 lo hi g a s0 k).2
 | 0=>by
  constructor
  ·intro h;cases h
  ·rintro ⟨_,h,_⟩;omega
 | K + 1=>by
  by_cases h:g (a + K)=some (run27 lo hi g a s0 K).2
  ·rw [run_yes h]
   show n∈_++_↔_
   rw [zT,run_mem,zF]
   constructor
   ·rintro (⟨k,l,e,z⟩ | rfl)
    ·exact ⟨k,by omega,e,z⟩
    ·exact ⟨K,by omega,rfl,h⟩
   ·rintro ⟨k,l,e,z⟩
    by_cases c:k=K
    ·subst c;exact .inr e
    ·exact .inl ⟨k,by omega,e,z⟩
  ·rw [run_no h,run_mem]
   constructor
   ·rintro ⟨k,l,e,z⟩;exact ⟨k,by omega,e,z⟩
   ·rintro ⟨k,l,e,z⟩
    by_cases c:k=K
    ·subst c;exact absurd z h
    ·exact ⟨k,by omega,e,z⟩
theorem run_len27:∀ {K:Nat},(run27 lo hi g a s0 K).1.length<=K
 | 0=>zD _
 | K + 1=>by
  have:=run_len27 (K:=K)
  by_cases h:g (a + K)=some (run27 lo hi g a s0 K).2
  ·rw [run_yes h];show ((run27 lo hi g a s0 K).1++[((a + K:Nat):Int)]).length<=_;rw [zE];show _ + 1<=_;omega
  ·rw [run_no h];omega
def but27 (g:Nat->Option Nat) (c:List Int) (i:Nat):Option Nat:=if (i:Int)∈c then none else g i
theorem run_two {K k:Nat} (hk:k < K):(run27 lo hi (but27 g (run27 lo hi g a s0 K).1) a s0 (k + 1)).2=if g (a + k)=some (run27 lo hi g a s0 k).2 then (run27 lo hi (but27 g (run27 lo hi g a s0 K).1) a s0 k).2 else mv27 lo hi g (a + k) (run27 lo hi (but27 g (run27 lo hi g a s0 K).1) a s0 k).2:=by
 rw [run_mv]
 by_cases h:g (a + k)=some (run27 lo hi g a s0 k).2
 ·rw [if_pos h]
  have:((a + k:Nat):Int)∈(run27 lo hi g a s0 K).1:=run_mem.mpr ⟨k,hk,rfl,h⟩
  unfold mv27
  rw [if_neg]
  unfold but27
  rw [if_pos this];exact λz=>nomatch z
 ·rw [if_neg h]
  have:((a + k:Nat):Int) ∉ (run27 lo hi g a s0 K).1:=λz=>by
   obtain ⟨k',_,e,z⟩:=run_mem.mp z
   obtain rfl:k=k':=by omega
   exact h z
  have e:but27 g (run27 lo hi g a s0 K).1 (a + k)=g (a + k):=by unfold but27;rw [if_neg this]
  unfold mv27
  rw [e]
end
theorem runs_end {N W:Nat}{lo hi:Nat->Nat}{wait:Nat->Nat->Int}{th bk:Nat->Int}{g:Nat->Option Nat}{amt out:Nat->Nat->Int}{tot:Int} {a z s0 w0:Nat} (L:Lay N W lo hi wait th bk g amt out tot a z s0 w0) (az:a<=z) (zN:z<=N) (hs:s0 < W) (two:2<=amt a s0):(run27 lo hi g a s0 (z - a)).2=w0/\(run27 lo hi (but27 g (run27 lo hi g a s0 (z - a)).1) a s0 (z - a)).2=w0:=by
 have go:∀ k,k<=z - a->Two27 amt W (a + k) (run27 lo hi g a s0 k).2 (run27 lo hi (but27 g (run27 lo hi g a s0 (z - a)).1) a s0 k).2:=by
  intro k
  induction k with
  | zero=>exact λ_=>⟨hs,hs,.inl ⟨rfl,two⟩⟩
  | succ k ih=>
   intro hk
   have:=L.two (by omega) (by omega) (ih (by omega))
   rw [run_two (by omega),run_mv]
   exact this
 have e:=go (z - a) (zD _)
 rw [show a + (z - a)=z by omega] at e
 exact L.ends zN e
theorem run_walk {W:Nat}{ms:List M4} (gd:Good W ms) {x:Int} {s0:Nat}{g:Nat->Option Nat} (hg:∀ i v,i < ms.length->g i=some v->v=lo27 ms i\/v=hi27 ms i):∀ k,cnt ms x + k<=ms.length ->
  ∃ t,walkM ms s0 x (-1) (run27 (lo27 ms) (hi27 ms) g (cnt ms x) s0 k).1=some ((run27 (lo27 ms) (hi27 ms) g (cnt ms x) s0 k).2,t)/\(((run27 (lo27 ms) (hi27 ms) g (cnt ms x) s0 k).2=s0/\t=x)\/∃ (j:Nat) (m:M4),j < cnt ms x + k/\ms[j]?=some m/\m.t=t/\((run27 (lo27 ms) (hi27 ms) g (cnt ms x) s0 k).2=m.lo.toNat\/(run27 (lo27 ms) (hi27 ms) g (cnt ms x) s0 k).2=m.hi.toNat))
 | 0,_=>⟨x,rfl,.inl ⟨rfl,rfl⟩⟩
 | k + 1,hk=>by
  obtain ⟨t,wk,st⟩:=run_walk (x:=x) (s0:=s0) gd hg k (by omega)
  by_cases h:g (cnt ms x + k)=some (run27 (lo27 ms) (hi27 ms) g (cnt ms x) s0 k).2
  ·have hm:ms[cnt ms x + k]?=some ms[cnt ms x + k]:=zL (by omega)
   generalize ms[cnt ms x + k]=m at hm
   have el:lo27 ms (cnt ms x + k)=m.lo.toNat:=by unfold lo27;rw [hm];rfl
   have eh:hi27 ms (cnt ms x + k)=m.hi.toNat:=by unfold hi27;rw [hm];rfl
   have hv:=hg _ _ (by omega) h
   rw [el,eh] at hv
   rw [run_yes h]
   generalize run27 (lo27 ms) (hi27 ms) g (cnt ms x) s0 k=r at *
   have lt:t < m.t:=by
    rcases st with ⟨_,tx⟩ | ⟨j,m',lj,hm',rfl,hv'⟩
    ·have:=(cnt_lt (t:=x) gd.ord.2 hm)
     omega
    ·obtain ⟨l1,e1⟩:=zB.mp hm'
     obtain ⟨l2,e2⟩:=zB.mp hm
     have:=zp.mp gd.order j (cnt ms x + k) l1 l2 (by omega)
     rw [e1,e2] at this
     rcases this with h | ⟨_,_,ap⟩
     ·exact h
     ·obtain ⟨a1,a2,a3,a4⟩:=ap
      obtain ⟨b1,b2,_⟩:=gd.each m (zC hm)
      obtain ⟨c1,c2,_⟩:=gd.each m' (zC hm')
      omega
   have mv:mv27 (lo27 ms) (hi27 ms) g (cnt ms x + k) r.2=oth r.2 m:=by
    unfold mv27 oth
    rw [if_pos h,el,eh]
   rw [mv]
   refine ⟨m.t,walk_snoc gd hm wk (.inl rfl) hv lt,.inr ⟨_,m,by omega,hm,rfl,?_⟩⟩
   show oth r.2 m=_\/oth r.2 m=_
   unfold oth
   split
   ·exact .inr rfl
   ·exact .inl rfl
  ·rw [run_no h]
   refine ⟨t,wk,?_⟩
   rcases st with st | ⟨j,m,h1,h2⟩
   ·exact .inl st
   ·exact .inr ⟨j,m,by omega,h2⟩
theorem run_chain {W:Nat}{ms:List M4} (gd:Good W ms) {x z:Int} {s0 w0:Nat}{g:Nat->Option Nat} (hg:∀ i v,i < ms.length->g i=some v->v=lo27 ms i\/v=hi27 ms i) (xz:x<=z) (hw:(run27 (lo27 ms) (hi27 ms) g (cnt ms x) s0 (cnt ms z - cnt ms x)).2=w0):∃ e,e<=z/\walkM ms s0 x (-1) (run27 (lo27 ms) (hi27 ms) g (cnt ms x) s0 (cnt ms z - cnt ms x)).1=some (w0,e):=by
 have c1:=cnt_mono gd.ord.2 xz
 have c2:=cnt_le ms z
 obtain ⟨t,wk,st⟩:=run_walk gd (x:=x) (s0:=s0) hg (cnt ms z - cnt ms x) (by omega)
 rw [hw] at wk
 refine ⟨t,?_,wk⟩
 rcases st with ⟨_,rfl⟩ | ⟨j,m,lj,hm,rfl,_⟩
 ·exact xz
 ·exact (cnt_lt (t:=z) gd.ord.2 hm).mp (by omega)
theorem giv_in {ms:List M4}{sp:List Int} (i v:Nat) (h:giv27 ms sp i=some v):v=lo27 ms i\/v=hi27 ms i:=by
 unfold giv27 at h
 split at h
 ·cases h
 ·split at h
  ·cases h;exact .inl rfl
  ·cases h;exact .inr rfl
theorem two_chains27 {W:Nat}{ms:List M4} (gd:Good W ms) {s0 w0:Nat}{x z e tot:Int}{ns:List Int}{sp:List Int}{S:List Nat} (hs:s0 < W) (hw:w0 < W) (ne:s0≠w0) (wk:walkM ms s0 x (-1) ns=some (w0,e)) (le:e<=z) (hn:∀ n:Nat,(n:Int)∈ns->upto (fwd (ms.eraseIdx n) (lone s0 x) w0) z=true)
  (so:Sound (ties27 ms W) sp) (nt:∀ p,net (ties27 ms W) sp p (ties27 ms W).length=tot * ((if cnt ms z * W + w0=p then 1 else 0) - (if cnt ms x * W + s0=p then 1 else 0))) (nd:S.Nodup) (cl:∀ p∈S,ClosedAt (ties27 ms W) sp S p) (h0:cnt ms x * W + s0∈S) (hg:cnt ms z * W + w0 ∉ S) :
  (∃ e1,e1<=z/\walkM ms s0 x (-1) (run27 (lo27 ms) (hi27 ms) (giv27 ms sp) (cnt ms x) s0 (cnt ms z - cnt ms x)).1=some (w0,e1)) /\
  (∃ e2,e2<=z/\walkM ms s0 x (-1) (run27 (lo27 ms) (hi27 ms) (but27 (giv27 ms sp) (run27 (lo27 ms) (hi27 ms) (giv27 ms sp) (cnt ms x) s0 (cnt ms z - cnt ms x)).1) (cnt ms x) s0 (cnt ms z - cnt ms x)).1=some (w0,e2)) /\
  ∀ n∈(run27 (lo27 ms) (hi27 ms) (giv27 ms sp) (cnt ms x) s0 (cnt ms z - cnt ms x)).1,n ∉ (run27 (lo27 ms) (hi27 ms) (but27 (giv27 ms sp) (run27 (lo27 ms) (hi27 ms) (giv27 ms sp) (cnt ms x) s0 (cnt ms z - cnt ms x)).1) (cnt ms x) s0 (cnt ms z - cnt ms x)).1:=by
 have xe:=walk_late wk
 have c1:=cnt_mono gd.ord.2 (show x<=z by omega)
 have c2:=cnt_le ms z
 have ins:∀ j,j < ms.length->lo27 ms j≠hi27 ms j/\lo27 ms j < W/\hi27 ms j < W:=λj hj=>by
  have e:ms[j]?=some ms[j]:=zL hj
  obtain ⟨b1,b2,b3,_⟩:=gd.each ms[j] (zj hj)
  have el:lo27 ms j=ms[j].lo.toNat:=by unfold lo27;rw [e];rfl
  have eh:hi27 ms j=ms[j].hi.toNat:=by unfold hi27;rw [e];rfl
  rw [el,eh];omega
 obtain ⟨all,each⟩:=each27 gd wk le hn
 have ct:=cut_tot so nd cl h0 hg nt
 have t2:2<=tot:=two_least (x:=x) (λj m hj hm=>(cnt_lt (t:=x) gd.ord.2 hm).mp hj) (λj hj=>(ins j hj).2) c1 c2 hw h0 hg ct all each
 have L:=lay27 (tot:=tot) so (by omega) ins hs hw nt
 obtain ⟨w1,w2⟩:=runs_end L c1 c2 hs (by
  show 2<=inn27 ms W sp (cnt ms x) s0 + tot * (if cnt ms x=cnt ms x/\s0=s0 then 1 else 0)
  rw [if_pos ⟨rfl,rfl⟩]
  have:0<=inn27 ms W sp (cnt ms x) s0:=by
   cases cnt ms x with
   | zero=>exact zq _
   | succ i=>
    show 0<=wt27 ms W sp i s0 + (if s0=hi27 ms i then th27 sp i else 0) + (if s0=lo27 ms i then bk27 sp i else 0)
    have p1:0<=wt27 ms W sp i s0:=at0_nn so _
    have p2:0<=th27 sp i:=at0_nn so _
    have p3:0<=bk27 sp i:=at0_nn so _
    split <;> split <;> omega
  omega)
 refine ⟨run_chain gd (λi v _=>giv_in i v) (by omega) w1,run_chain gd (λi v _ h=>?_) (by omega) w2,λn h1 h2=>?_⟩
 ·unfold but27 at h
  split at h
  ·cases h
  ·exact giv_in i v h
 ·obtain ⟨k,_,rfl,h⟩:=run_mem.mp h2
  unfold but27 at h
  rw [if_pos h1] at h;cases h
end Sm
namespace Sm
open PySem L2 SmSort
def oG (o:Option Nat):V:=oV (o.map λv=>(v:Int))
def gvL (n:Nat) (g:Nat->Option Nat):List V:=(List.range n).map λi=>oG (g i)
theorem gvL_at {n i:Nat}{g:Nat->Option Nat} (h:i < n):(gvL n g)[i]?=some (oG (g i)):=by unfold gvL;rw [zS,yn h];rfl
theorem gvL_len {n:Nat}{g:Nat->Option Nat}:(gvL n g).length=n:=by unfold gvL;rw [zA,yD]
theorem gvL_succ {n:Nat}{g:Nat->Option Nat}:gvL (n + 1) g=gvL n g++[oG (g n)]:=by unfold gvL;rw [yy,zK];rfl
def spGiverOf:Sp:=λvs H Q _=>∃ t l,∃ m:M4,∃ th bk:Int,vs=[.ref t,.ref l]/\H t=some (.tup m.vs)/\H l=some (.lst [.int th,.int bk])/\0<=m.lo/\0<=m.hi/\Q (oG (if th=bk then none else if bk < th then some m.lo.toNat else some m.hi.toNat)) H
structure Sent27 (ms:List M4) (W s w:Nat) (a z:Int) (sp:List Int) (tot:Int) (S:List Nat):Prop where
 so:Sound (ties27 ms W) sp
 nt:∀ p,net (ties27 ms W) sp p (ties27 ms W).length=tot * ((if cnt ms z * W + w=p then 1 else 0) - (if cnt ms a * W + s=p then 1 else 0))
 nd:S.Nodup
 cl:∀ p∈S,ClosedAt (ties27 ms W) sp S p
 h0:cnt ms a * W + s∈S
 hg:cnt ms z * W + w ∉ S
def spGivers (C:Addr):Sp:=λvs H Q _=>∃ b lt,∃ s w:Nat,∃ a z rooms tr tm ps,vs=[.ref b,.ref lt]/\BookAt H b rooms tr tm ps/\1<=rooms.length/\rooms.length<=12/\Good rooms.length (ps.map (·.2))/\LetAt H lt rooms.length s w a z/\s≠w /\
 ∀ l sp tot S H',Same H H'->H l=none->H' l=some (.lst (gvL ps.length (giv27 (ps.map (·.2)) sp)))->Sent27 (ps.map (·.2)) rooms.length s w a z sp tot S->Q (.ref l) H'
def spChainBy:Sp:=λvs H Q _=>∃ b lt lg,∃ s w:Nat,∃ a z rooms tr tm ps g,vs=[.ref b,.ref lt,.ref lg]/\BookAt H b rooms tr tm ps/\rooms.length<=1000/\Good rooms.length (ps.map (·.2))/\LetAt H lt rooms.length s w a z/\H lg=some (.lst (gvL ps.length g))/\(∀ i v,i < ps.length->g i=some v->v=lo27 (ps.map (·.2)) i\/v=hi27 (ps.map (·.2)) i) /\
 ∀ l H',Same H H'->H l=none->H' l=some (.lst (List.map V.int (run27 (lo27 (ps.map (·.2))) (hi27 (ps.map (·.2))) g (cnt (ps.map (·.2)) a) s (cnt (ps.map (·.2)) z - cnt (ps.map (·.2)) a)).1))->Q (.ref l) H'
structure Pair27 (F:Addr->Prop) (H:Hp) (ms:List M4) (s w:Nat) (a z:Int) (l1 l2:Addr) (c1 c2:List Int):Prop where
 ne:l1≠l2
 f1:F l1
 f2:F l2
 h1:H l1=some (.lst (List.map V.int c1))
 h2:H l2=some (.lst (List.map V.int c2))
 w1:∃ e,e<=z/\walkM ms s a (-1) c1=some (w,e)
 w2:∃ e,e<=z/\walkM ms s a (-1) c2=some (w,e)
 dj:∀ n∈c1,n ∉ c2
def spTwoCh (C:Addr):Sp:=λvs H Q _=>∃ b lt,∃ s w:Nat,∃ a z rooms tr tm ps e ns,vs=[.ref b,.ref lt]/\BookAt H b rooms tr tm ps/\1<=rooms.length/\rooms.length<=12/\Good rooms.length (ps.map (·.2))/\LetAt H lt rooms.length s w a z/\s≠w/\walkM (ps.map (·.2)) s a (-1) ns=some (w,e)/\e<=z/\(∀ n:Nat,(n:Int)∈ns->upto (fwd ((ps.map (·.2)).eraseIdx n) (lone s a) w) z=true) /\
 ∀ t l1 l2 c1 c2 H',Same H H'->H' t=some (.tup [.ref l1,.ref l2])->Pair27 (λl=>H l=none) H' (ps.map (·.2)) s w a z l1 l2 c1 c2->Q (.ref t) H'
def Told27 (F:Addr->Prop) (H:Hp) (n:Nat) (ms:List M4) (s w:Nat) (a z:Int) (t:Addr):Prop:=
 (upto (fwd ms (lone s a) w) z=false/\∃ l,H t=some (.tup [.str "none", .ref l])/\F l/\H l=some (.lst ((rep n (fwd ms (lone s a))).map oV))) \/
 (upto (fwd ms (lone s a) w) z=true/\∃ (k:Nat) (l:Addr),k < ms.length/\upto (fwd (ms.eraseIdx k) (lone s a) w) z=false/\H t=some (.tup [.str "one", .int (k:Int),.ref l])/\F l/\H l=some (.lst ((rep n (fwd (ms.eraseIdx k) (lone s a))).map oV))) \/
 (∃ l1 l2 c1 c2,H t=some (.tup [.str "two", .ref l1,.ref l2])/\Pair27 F H ms s w a z l1 l2 c1 c2)
def spStands (T:Addr) (lp:Pos):Sp:=λvs H Q _=>∃ b lt,∃ s w:Nat,∃ a z rooms tr tm ps,vs=[.ref b,.ref lt]/\BookAt H b rooms tr tm ps/\1<=rooms.length/\rooms.length<=12/\(∀ r∈rooms,(0:Int)<=r/\r<=99)/\Good rooms.length (ps.map (·.2))/\LetAt H lt rooms.length s w a z/\MT T lp lamQ H /\
 ∀ t H',But T H H'->MT T lp lamQ H'->Told27 (λl=>H l=none) H' rooms.length (ps.map (·.2)) s w a z t->Q (.ref t) H'
theorem MT.free {T:Addr}{lp:Pos}{q:Str} {H H1:Hp} (mt1:MT T lp q H1) (b:But T H H1) {l:Addr} (h:H1 l=none):H l=none:=by
 cases e:H l with
 | none=>rfl
 | some o=>
  by_cases z:l=T
  ·rcases mt1 with m | ⟨_,m,_⟩ <;> (rw [<-z,h] at m;cases m)
  ·rw [b _ _ z e] at h;cases h
theorem Pair27.same {F:Addr->Prop}{H H':Hp}{ms:List M4}{s w:Nat}{a z:Int} {l1 l2:Addr} {c1 c2:List Int} (p:Pair27 F H ms s w a z l1 l2 c1 c2) (e:Same H H'):Pair27 F H' ms s w a z l1 l2 c1 c2:=⟨p.ne,p.f1,p.f2,e _ _ p.h1,e _ _ p.h2,p.w1,p.w2,p.dj⟩
theorem Pair27.to {F F':Addr->Prop}{H:Hp}{ms:List M4}{s w:Nat}{a z:Int} {l1 l2:Addr} {c1 c2:List Int} (p:Pair27 F H ms s w a z l1 l2 c1 c2) (e:∀ l,F l->F' l):Pair27 F' H ms s w a z l1 l2 c1 c2:=⟨p.ne,e _ p.f1,e _ p.f2,p.h1,p.h2,p.w1,p.w2,p.dj⟩
theorem two_empty {F:Addr->Prop}{H:Hp}{ms:List M4}{s w:Nat}{a z:Int} {l1 l2:Addr} (e:s=w) (az:a<=z) (ne:l1≠l2) (f1:F l1) (f2:F l2) (h1:H l1=some (.lst [])) (h2:H l2=some (.lst [])):Pair27 F H ms s w a z l1 l2 [] []:=
 ⟨ne,f1,f2,h1,h2,⟨a,az,by rw [e];rfl⟩,⟨a,az,by rw [e];rfl⟩,λ_ h=>nomatch h⟩
theorem ties_snoc {ms:List M4}{W q:Nat}:tW27 ms W ms.length++(List.range (q + 1)).map (λq=>(⟨q,q + W,2⟩:Tie))=(tW27 ms W ms.length++(List.range q).map λq=>(⟨q,q + W,2⟩:Tie))++[⟨q,q + W,2⟩]:=by
 rw [yy,zK,xC];rfl
end Sm
namespace Sm
open PySem L2 SmSort
theorem own_tup {C:Addr}{H:Hp}{x dx lA lE lS:Addr}{as:List Addr}{src:Int}{n:Nat}{ts:List Tie}{sp:List Int} (a:SAt C H x dx lA lE lS as src n ts sp):∀ b∈x::lA::lE::lS::as,∀ xs,H b≠some (.tup xs):=by
 intro b hb xs e
 rcases zH.mp hb with rfl | hb
 ·rw [a.raw.ins] at e;cases e
 rcases zH.mp hb with rfl | hb
 ·rw [a.raw.arcs] at e;cases e
 rcases zH.mp hb with rfl | hb
 ·rw [a.raw.ends] at e;cases e
 rcases zH.mp hb with rfl | hb
 ·rw [a.raw.spr] at e;cases e
 obtain ⟨i,hi⟩:=zy hb
 rw [a.raw.rws i _ hi] at e;cases e
theorem SAt.tups27 {C:Addr}{H H':Hp}{x dx lA lE lS:Addr}{as:List Addr}{src:Int}{n:Nat}{ts:List Tie}{sp:List Int}{M:List Addr} (a:SAt C H x dx lA lE lS as src n ts sp) (k:KeptM M H H') (f:∀ b∈M,b∈x::lA::lE::lS::as):Tups H H':=λb xs e=>k b _ (λh=>own_tup a b (f b h) xs e) e
def tie27 (W:Nat) (y:W4):Tie:=⟨y.n * W + y.w.g,y.n * W + W + y.w.o,1⟩
theorem tW_map {ms:List M4}{W i:Nat}:tW27 ms W i=(waysN ms i).map (tie27 W):=rfl
theorem way_in27 {W:Nat}{ms:List M4} (gd:Good W ms) {i:Nat}{y:W4} (h:y∈waysN ms i):y.n < ms.length/\y.w.g < W/\y.w.o < W:=by
 have l:=waysN_link h
 obtain ⟨a1,a2,_⟩:=Link.inside gd l
 obtain ⟨m,hm,_⟩:=l
 exact ⟨(zB.mp hm).1,a1,a2⟩
theorem pt_lt {W N n v:Nat} (hn:n<=N) (hv:v < W):n * W + v < W * (N + 1):=by
 have:(n + 1) * W<=(N + 1) * W:=Nat.mul_le_mul_right _ (by omega)
 rw [yQ] at this
 rw [xR W];omega
theorem pts_small {W N:Nat} (hW:W<=12) (hN:N<=60):W * (N + 1)<=732/\W * N<=720:=by
 have h1:W * (N + 1)<=12 * 61:=Nat.mul_le_mul hW (by omega)
 have h2:W * N<=12 * 60:=Nat.mul_le_mul hW hN
 omega
theorem cut_two {f:Nat->V}{n i:Nat} (h:2 * i + 2<=n):cutV ((List.range n).map f) (some ((2 * i:Nat):Int)) (some ((2 * i + 2:Nat):Int))=[f (2 * i),f (2 * i + 1)]:=by
 unfold cutV
 rw [HT.sIx_nat,HT.sIx_nat,zA,yD,Nat.min_eq_left h,Nat.min_eq_left (show 2 * i<=n by omega),show 2 * i + 2 - 2 * i=2 by omega]
 apply List.ext_getElem?
 intro j
 rw [List.getElem?_take,List.getElem?_drop,zS]
 match j with
 | 0=>rw [if_pos (by omega),yn (by omega)];rfl
 | 1=>rw [if_pos (by omega),yn (by omega)];rfl
 | j + 2=>rw [if_neg (by omega)];rfl
def iL (n:Nat):List V:=(List.range n).map λk:Nat=>V.int (k:Int)
theorem iL_succ {n:Nat}:iL (n + 1)=iL n++[V.int (n:Int)]:=by unfold iL;rw [yy,zK];rfl
theorem iL_len {n:Nat}:(iL n).length=n:=by unfold iL;rw [zA,yD]
theorem iL_at {n k:Nat}{v:V} (h:(iL n)[k]?=some v):k < n/\v=.int (k:Int):=by
 have l:=(zB.mp h).1
 rw [iL_len] at l
 unfold iL at h
 rw [zS,yn l] at h
 exact ⟨l,(Option.some.inj h).symm⟩
theorem walk_each27 {ms:List M4}:∀ {cs:List Int}{s:Nat}{y A:Int}{r:Nat×Int},walkM ms s y A cs=some r->∀ c∈cs,∃ (k:Nat) (m:M4),c=(k:Int)/\ms[k]?=some m
 | [],_,_,_,_,_,c,hc=>by cases hc
 | n::cs,s,y,A,r,h,c,hc=>by
  obtain ⟨m,hm,_,n0,_,_,rest⟩:=we h
  rcases zH.mp hc with rfl | hc
  ·obtain ⟨k,rfl⟩:=zk n0
   exact ⟨k,m,rfl,by rw [zh] at hm;exact hm⟩
  ·exact walk_each27 rest c hc
theorem ints_flat {c:List Int}:(List.map V.int c).all flatV=true:=by
 rw [yp];intro y hy;obtain ⟨n,_,rfl⟩:=zQ.mp hy;rfl
end Sm
namespace Sm
open PySem L2 SmSort
def shut (n:Nat) (k:Int):Int:=if (n:Int) < k then k - 1 else k
theorem walk_shut {ms:List M4}{n:Nat}:∀ {c:List Int}{v:Nat}{t A:Int}{r:Nat×Int},walkM ms v t A c=some r->(n:Int) ∉ c->A≠n->walkM (ms.eraseIdx n) v t (shut n A) (c.map (shut n))=some r
 | [],v,t,A,r,h,_,_=>h
 | k::c,v,t,A,r,h,nn,An=>by
  obtain ⟨m,hm,Ak,k0,hv,lt,wk⟩:=we h
  have kn:k≠n:=λe=>nn (by rw [e];exact .head _)
  have ih:=walk_shut wk (λz=>nn (.tail _ z)) kn
  show walkM (ms.eraseIdx n) v t (shut n A) (shut n k::c.map (shut n))=some r
  unfold walkM
  have hm':(ms.eraseIdx n)[(shut n k).toNat]?=some m:=by
   rw [List.getElem?_eraseIdx]
   unfold shut
   by_cases d:(n:Int) < k
   ·rw [if_pos d,if_neg (by omega),<- hm];congr 1;omega
   ·rw [if_neg d,if_pos (by omega)];exact hm
  rw [hm']
  dsimp only
  rw [if_pos]
  ·exact ih
  ·refine ⟨?_,?_,hv,lt⟩
   ·unfold shut;split <;> split <;> omega
   ·unfold shut;split <;> omega
theorem shut_chain {ms:List M4}{n s w:Nat}{a e:Int}{c:List Int} (h:walkM ms s a (-1) c=some (w,e)) (nn:(n:Int) ∉ c):walkM (ms.eraseIdx n) s a (-1) (c.map (shut n))=some (w,e):=by
 have:=walk_shut h nn (by omega)
 rw [show shut n (-1)=-1 from by unfold shut;rw [if_neg (by omega)]] at this
 exact this
theorem pair_comes {W:Nat}{ms:List M4} (gd:Good W ms) {s w:Nat}{a z:Int} {c1 c2:List Int} (w1:∃ e,e<=z/\walkM ms s a (-1) c1=some (w,e)) (w2:∃ e,e<=z/\walkM ms s a (-1) c2=some (w,e)) (dj:∀ n∈c1,n ∉ c2) (n:Nat):upto (fwd (ms.eraseIdx n) (lone s a) w) z=true:=by
 have one:∀ {c:List Int},(∃ e,e<=z/\walkM ms s a (-1) c=some (w,e))->(n:Int) ∉ c->upto (fwd (ms.eraseIdx n) (lone s a) w) z=true:=λ{c} h nn=>by
  obtain ⟨e,le,h⟩:=h
  obtain ⟨y,hy,l⟩:=upto_iff.mp (walk_comes47 (gd.sub (yM _ _)) (shut_chain h nn))
  exact upto_iff.mpr ⟨y,hy,by omega⟩
 by_cases c:(n:Int)∈c1
 ·exact one w2 (dj n c)
 ·exact one w1 c
theorem walk_upto {W:Nat}{ms:List M4} (gd:Good W ms) {s w:Nat}{a z:Int}{c:List Int} (h:∃ e,e<=z/\walkM ms s a (-1) c=some (w,e)):upto (fwd ms (lone s a) w) z=true:=by
 obtain ⟨e,le,h⟩:=h
 obtain ⟨y,hy,l⟩:=upto_iff.mp (walk_comes47 gd h)
 exact upto_iff.mpr ⟨y,hy,by omega⟩
def lostTo (ms:List M4) (x:L4):Nat->List Int
 | 0=>[]
 | i + 1=>lostTo ms x i++(if lostB ms i x=true then [(i:Int)] else [])
theorem lostTo_len (ms:List M4) (x:L4):∀ i,(lostTo ms x i).length<=i
 | 0=>zD _
 | i + 1=>by
  have:=lostTo_len ms x i
  unfold lostTo
  rw [zE]
  split
  ·show _ + 1<=_;omega
  ·show _ + 0<=_;omega
theorem lostTo_nil {ms:List M4}{x:L4} (h:∀ n,lostB ms n x=false):∀ i,lostTo ms x i=[]
 | 0=>rfl
 | i + 1=>by unfold lostTo;rw [lostTo_nil h i,h i];rfl
theorem lostTo_mem {ms:List M4}{x:L4}{k:Nat} (h:lostB ms k x=true):∀ {i},k < i->(k:Int)∈lostTo ms x i
 | 0,l=>by omega
 | i + 1,l=>by
  unfold lostTo
  by_cases c:k=i
  ·subst c;rw [if_pos h];exact zP _ (.head _)
  ·exact zx _ (lostTo_mem h (by omega))
theorem pick_mem {f:L4->Bool}{ls:List L4}{k:Nat}{x:L4} (hx:ls[k]?=some x):∀ {i},k < i->(decide ((k:Int)∈pick f ls i)=f x)
 | 0,l=>by omega
 | i + 1,l=>by
  by_cases c:k=i
  ·subst c
   have no:(k:Int) ∉ pick f ls k:=λh=>by
    have:∀ {j}{z:Int},z∈pick f ls j->z < j:=by
     intro j
     induction j with
     | zero=>intro z h;cases h
     | succ j ih=>
      intro z h
      unfold pick at h
      rcases zT.mp h with h | h
      ·have:=ih h;omega
      ·split at h
       ·split at h
        ·rw [zF.mp h];omega
        ·cases h
       ·cases h
    have:=this h
    omega
   cases e:f x with
   | true=>rw [pick_yes hx e];exact decide_eq_true (zP _ (.head _))
   | false=>rw [pick_no hx e];exact decide_eq_false no
  ·rw [<-pick_mem (f:=f) hx (show k < i by omega)]
   apply decide_eq_decide.mpr
   show (k:Int)∈pick f ls i++_↔_
   rw [zT]
   constructor
   ·rintro (h | h)
    ·exact h
    ·split at h
     ·split at h
      ·have:=zF.mp h;omega
      ·cases h
     ·cases h
   ·exact .inl
theorem pick_one {f:L4->Bool}{x:L4}:pick f [x] 1=if f x=true then [0] else []:=by
 cases e:f x with
 | true=>rw [pick_yes (i:=0) rfl e];rfl
 | false=>rw [pick_no (i:=0) rfl e];rfl
def spClosedUp:Sp:=λvs H Q _=>∃ lc,∃ n:Nat,∃ c:List Int,vs=[.ref lc,.int (n:Int)]/\H lc=some (.lst (List.map V.int c))/\c.length<=1000/\(n:Int) ∉ c/\∀ l H',Same H H'->H l=none->H' l=some (.lst (List.map V.int (c.map (shut n))))->Q (.ref l) H'
def spOneLeft (T:Addr) (lp:Pos):Sp:=λvs H Q _=>∃ b lt t,∃ n:Nat,∃ F,∃ s w:Nat,∃ a z rooms tr tm ps l1 l2 c1 c2,vs=[.ref b,.ref lt,.ref t,.int (n:Int)]/\BookAt H b rooms tr tm ps/\n < ps.length/\1<=rooms.length/\rooms.length<=12/\(∀ r∈rooms,(0:Int)<=r/\r<=99)/\Good rooms.length (ps.map (·.2))/\LetAt H lt rooms.length s w a z/\H t=some (.tup [.ref l1,.ref l2])/\Pair27 F H (ps.map (·.2)) s w a z l1 l2 c1 c2/\MT T lp lamQ H/\∀ H',But T H H'->MT T lp lamQ H'->Q (.bl true) H'
def spHoldsSo (T:Addr) (lp:Pos):Sp:=λvs H Q _=>∃ b ll,∃ x:Addr×L4,∃ rooms tr tm ps,vs=[.ref b,.ref x.1,.ref ll]/\BookAt H b rooms tr tm ps/\1<=rooms.length/\rooms.length<=12/\(∀ r∈rooms,(0:Int)<=r/\r<=99)/\Good rooms.length (ps.map (·.2))/\LtAt H rooms.length x/\H ll=some (.lst (List.map V.int (lostTo (ps.map (·.2)) x.2 ps.length)))/\MT T lp lamQ H/\∀ H',But T H H'->MT T lp lamQ H'->Q (.bl true) H'
theorem Pair27.keep {T:Addr}{lp:Pos}{q:Str}{F:Addr->Prop}{H H':Hp}{ms:List M4}{s w:Nat}{a z:Int} {l1 l2:Addr} {c1 c2:List Int} (p:Pair27 F H ms s w a z l1 l2 c1 c2) (m:MT T lp q H) (b:But T H H'):Pair27 F H' ms s w a z l1 l2 c1 c2:=⟨p.ne,p.f1,p.f2,MT.keep m b p.h1 (by intro ys z;cases z),MT.keep m b p.h2 (by intro ys z;cases z),p.w1,p.w2,p.dj⟩
structure St31 (T:Addr) (lp:Pos) (H0 H:Hp) (lb:Addr) (as:List Addr) (f:Nat->List Int):Prop where
 bt:But T H0 H
 mt:MT T lp lamQ H
 hb:H lb=some (.lst (as.map V.ref))
 rw_:∀ k a,as[k]?=some a->H a=some (.lst (List.map V.int (f k)))
 nd:(lb::as).Nodup
 fr:∀ a∈lb::as,H0 a=none
theorem St31.but {T:Addr}{lp:Pos} {H0 H H':Hp}{lb:Addr}{as:List Addr}{f:Nat->List Int} (s:St31 T lp H0 H lb as f) (b:But T H H') (m:MT T lp lamQ H'):St31 T lp H0 H' lb as f:=
 ⟨s.bt.trans b,m,MT.keep s.mt b s.hb (by intro ys z;cases z),λk a h=>MT.keep s.mt b (s.rw_ k a h) (by intro ys z;cases z),s.nd,s.fr⟩
theorem St31.same {T:Addr}{lp:Pos} {H0 H H':Hp}{lb:Addr}{as:List Addr}{f:Nat->List Int} (s:St31 T lp H0 H lb as f) (e:Same H H'):St31 T lp H0 H' lb as f:=s.but (λx u _ h=>e x u h) (L2.MT.same s.mt e)
theorem St31.put {T:Addr}{lp:Pos} {H0 H:Hp}{lb:Addr}{as:List Addr}{f:Nat->List Int} (s:St31 T lp H0 H lb as f) {k:Nat}{a:Addr} (hk:as[k]?=some a) {g:List Int}:St31 T lp H0 (upd H a (.lst (List.map V.int g))) lb as (λj=>if j=k then g else f j):=by
 have nd:=ze.mp s.nd
 have am:=zC hk
 refine ⟨λx u n e=>by rw [xb (xZ e (s.fr a (.tail _ am)))];exact s.bt x u n e,L2.MT.put s.mt (s.rw_ k a hk),by rw [xb (λz=>nd.1 (by rw [z];exact am))];exact s.hb,λj b hj=>?_,s.nd,s.fr⟩
 by_cases e:j=k
 ·subst e
  rw [hk] at hj;cases hj
  rw [xW,if_pos rfl]
 ·rw [xb (λz=>e (by subst z;exact nod_at34 nd.2 hj hk)),if_neg e];exact s.rw_ j b hj
theorem St31.ext {T:Addr}{lp:Pos} {H0 H:Hp}{lb:Addr}{as:List Addr}{f g:Nat->List Int} (s:St31 T lp H0 H lb as f) (e:∀ k,k < as.length->f k=g k):St31 T lp H0 H lb as g:=
 ⟨s.bt,s.mt,s.hb,λk a h=>by rw [<-e k (zB.mp h).1];exact s.rw_ k a h,s.nd,s.fr⟩
end Sm
namespace Sm
open PySem L2
theorem line9:1002<=sizeLine:=by rw [sizeLine_eq];decide
end Sm


namespace Sm
open PySem L2
def top (i:Nat):Stmt:=PySem.Challenge.pw_satchelmeet_k31_whole_stands_any_missed.main.body.getD i (.Pass ⟨0,0,0,0⟩)
abbrev KG:Stmt:=top 0
abbrev D6:Stmt:=top 51
abbrev EF:Stmt:=top 52
abbrev Fv:Stmt:=top 57
abbrev D5:Stmt:=top 53
abbrev EG:Stmt:=top 54
abbrev wo:Stmt:=top 55
abbrev EH:Stmt:=top 56
abbrev EE:Stmt:=top 58
abbrev DG:Stmt:=top 59
abbrev Fo:Stmt:=top 7
abbrev EB:Stmt:=top 8
abbrev F7:Stmt:=top 9
abbrev Fq:Stmt:=top 10
abbrev F6:Stmt:=top 11
abbrev DE:Stmt:=top 18
abbrev D4:Stmt:=top 19
abbrev wZ:Stmt:=top 20
abbrev Dv:Stmt:=top 21
abbrev DD:Stmt:=top 17
abbrev wf:Stmt:=top 22
abbrev EC:Stmt:=top 23
abbrev EY:Stmt:=top 24
abbrev JU:Stmt:=top 25
abbrev Fm:Stmt:=top 26
abbrev D3:Stmt:=top 27
abbrev Du:Stmt:=top 30
abbrev EX:Stmt:=top 29
abbrev wa:Stmt:=inClass (top 32) 0
abbrev D7:Stmt:=inClass (top 32) 1
abbrev DH:Stmt:=inClass (top 32) 3
abbrev CB:Stmt:=inClass (top 32) 5
abbrev wS:Stmt:=inClass (top 32) 6
abbrev DI:Stmt:=inClass (top 32) 2
abbrev Fl:Stmt:=inClass (top 32) 4
abbrev ED:Stmt:=top 34
abbrev C8:Stmt:=top 38
abbrev Cy:Stmt:=top 36
abbrev Ft:Stmt:=top 37
abbrev Fs:Stmt:=top 45
abbrev wg:Stmt:=top 44
abbrev Fu:Stmt:=top 46
abbrev Dk:Stmt:=top 43
abbrev Hl:Stmt:=top 42
abbrev F8:Stmt:=top 41
abbrev IJ:Stmt:=top 40
abbrev Fp:Stmt:=top 48
abbrev F9:Stmt:=top 49
abbrev Cz:Stmt:=top 60
abbrev C9:Stmt:=top 61
abbrev Da:Stmt:=top 62
abbrev KF:Stmt:=top 63
def lamPos:Pos:=⟨39,49,39,77⟩
set_option genInjectivity false
set_option genSizeOf false
structure Ad where
 DF:Addr
 E9:FuncData
 Ba:Addr
 B4:FuncData
 Bt:Addr
 Cn:FuncData
 BQ:Addr
 CQ:FuncData
 A9:Addr
 B3:FuncData
 Bu:Addr
 Co:FuncData
 AB:Addr
 A5:FuncData
 Bv:Addr
 Cp:FuncData
 Bs:Addr
 Cm:FuncData
 AQ:Addr
 BB:FuncData
 BK:Addr
 CJ:FuncData
 Bo:Addr
 Ci:FuncData
 Cs:Addr
 Dp:FuncData
 BM:Addr
 CL:FuncData
 Cr:Addr
 Do:FuncData
 Br:Addr
 Cl:FuncData
 A8:Addr
 B2:FuncData
 Ah:Addr
 Ar:FuncData
 AI:Addr
 Bi:FuncData
 Bn:Addr
 Bm:FuncData
 Aj:Addr
 Aw:FuncData
 Bp:Addr
 Cj:FuncData
 Cu:Addr
 Dr:FuncData
 EU:Addr
 Gu:FuncData
 BI:Addr
 CG:FuncData
 BJ:Addr
 CI:FuncData
 AH:Addr
 Bh:FuncData
 Cq:Addr
 Dm:FuncData
 Ai:Addr
 AJ:FuncData
 Bb:Addr
 B5:FuncData
 AR:Addr
 BC:FuncData
 Au:Addr
 AZ:FuncData
 Al:Addr
 Ax:FuncData
 AT:Addr
 BD:FuncData
 AU:Addr
 BE:FuncData
 Bq:Addr
 Ck:FuncData
 Ay:Addr
 A3:FuncData
 As:Addr
 AX:FuncData
 BO:Addr
 CO:FuncData
 BN:Addr
 CM:FuncData
 AO:Addr
 BA:FuncData
 BP:Addr
 CP:FuncData
 A7:Addr
 B1:FuncData
 C7:Addr
 DX:FuncData
 Ct:Addr
 Dq:FuncData
 EV:Addr
 Gv:FuncData
 BL:Addr
 CK:FuncData
 Cv:Addr
 Ds:FuncData
 At:Addr
 AY:FuncData
 AA:Addr
 A4:FuncData
 AC:Addr
 A6:FuncData
 FZ:Addr
 IG:FuncData
 tC:Addr
 tP:Addr
 Aa:Addr
structure Tx (K:PySem.W.Frag) (mg:Str->Option Value) (a:Ad) (a_LAST_TIME:Tok) (a_MOST_WALKERS:Tok) (a_MOST_ROOM:Tok) (a_MOST_MEETINGS:Tok) (a_MOST_MANY:Tok):Prop where
 Fa:Fun K "_wall" "_wall" KG a.DF a.E9
 Lw:Binds K a.E9 ["k"] []
 Lu:mg "_wall" = some (.ref a.DF)
 Lv:zG K (.ref a.DF)=true
 Bz:Fun K "_law_purse" "_law_purse" D6 a.Ba a.B4
 Eg:Binds K a.B4 ["_law_script", "_law_k"] []
 Eb:mg "_law_purse" = some (.ref a.Ba)
 Ed:zG K (.ref a.Ba)=true
 BX:Fun K "_law_take" "_law_take" EF a.Bt a.Cn
 Af:Binds K a.Cn ["_law_purse_here", "_law_many"] []
 Ac:mg "_law_take" = some (.ref a.Bt)
 Ae:zG K (.ref a.Bt)=true
 Ch:Fun K "_law_far" "_law_far" Fv a.BQ a.CQ
 Kj:Binds K a.CQ ["_law_purse_here"] []
 J7:mg "_law_far" = some (.ref a.BQ)
 Kd:zG K (.ref a.BQ)=true
 By:Fun K "_law_rooms" "_law_rooms" D5 a.A9 a.B3
 I0:Binds K a.B3 ["_law_purse_here", "_law_walkers"] []
 IT:mg "_law_rooms" = some (.ref a.A9)
 IW:zG K (.ref a.A9)=true
 BY:Fun K "_law_step" "_law_step" EG a.Bu a.Co
 JD:Binds K a.Co ["_law_purse_here"] []
 Jt:mg "_law_step" = some (.ref a.Bu)
 Jy:zG K (.ref a.Bu)=true
 AM:Fun K "_law_meetings" "_law_meetings" wo a.AB a.A5
 G6:Binds K a.A5 ["_law_purse_here", "_law_walkers", "_law_most"] []
 G0:mg "_law_meetings" = some (.ref a.AB)
 G3:zG K (.ref a.AB)=true
 BZ:Fun K "_law_book" "_law_book" EH a.Bv a.Cp
 JE:Binds K a.Cp ["_law_purse_here", "_law_most_walkers", "_law_most_meetings"] []
 Ju:mg "_law_book" = some (.ref a.Bv)
 Jz:zG K (.ref a.Bv)=true
 BW:Fun K "_law_time" "_law_time" EE a.Bs a.Cm
 GT:Binds K a.Cm ["_law_purse_here", "_law_book_here", "_law_later"] []
 GN:mg "_law_time" = some (.ref a.Bs)
 GQ:zG K (.ref a.Bs)=true
 Be:Fun K "_law_letter" "_law_letter" DG a.AQ a.BB
 Ih:Binds K a.BB ["_law_purse_here", "_law_book_here"] []
 Ic:mg "_law_letter" = some (.ref a.AQ)
 Ie:zG K (.ref a.AQ)=true
 Cb:Fun K "is_whole" "is_whole" Fo a.BK a.CJ
 Kf:Binds K a.CJ ["thing"] []
 J0:mg "is_whole" = some (.ref a.BK)
 J9:zG K (.ref a.BK)=true
 BS:Fun K "is_within" "is_within" EB a.Bo a.Ci
 Bl:Binds K a.Ci ["thing", "least", "most"] []
 Bj:mg "is_within" = some (.ref a.Bo)
 Bk:zG K (.ref a.Bo)=true
 CV:Fun K "is_time" "is_time" F7 a.Cs a.Dp
 IE:Binds K a.Dp ["thing"] []
 IA:mg "is_time" = some (.ref a.Cs)
 IC:zG K (.ref a.Cs)=true
 Cd:Fun K "is_below" "is_below" Fq a.BM a.CL
 Kh:Binds K a.CL ["number", "bound"] []
 J5:mg "is_below" = some (.ref a.BM)
 Kb:zG K (.ref a.BM)=true
 CU:Fun K "is_upto" "is_upto" F6 a.Cr a.Do
 KQ:Binds K a.Do ["number", "bound"] []
 KL:mg "is_upto" = some (.ref a.Cr)
 KN:zG K (.ref a.Cr)=true
 BV:Fun K "are_rooms" "are_rooms" DE a.Br a.Cl
 JC:Binds K a.Cl ["thing"] []
 Js:mg "are_rooms" = some (.ref a.Br)
 Jx:zG K (.ref a.Br)=true
 Bx:Fun K "is_meeting" "is_meeting" D4 a.A8 a.B2
 IZ:Binds K a.B2 ["walkers", "thing"] []
 IS:mg "is_meeting" = some (.ref a.A8)
 IV:zG K (.ref a.A8)=true
 Ao:Fun K "meets_twice_at_once" "meets_twice_at_once" wZ a.Ah a.Ar
 Eu:Binds K a.Ar ["meetings"] []
 Es:mg "meets_twice_at_once" = some (.ref a.Ah)
 Et:zG K (.ref a.Ah)=true
 A2:Fun K "lesser_first" "lesser_first" Dv a.AI a.Bi
 HK:Binds K a.Bi ["meeting"] []
 Hu:mg "lesser_first" = some (.ref a.AI)
 HG:zG K (.ref a.AI)=true
 BR:Fun K "made_book" "made_book" DD a.Bn a.Bm
 JB:Binds K a.Bm ["rooms", "meetings"] []
 Jr:mg "made_book" = some (.ref a.Bn)
 Jw:zG K (.ref a.Bn)=true
 Ap:Fun K "is_meeting_number" "is_meeting_number" wf a.Aj a.Aw
 Dj:Binds K a.Aw ["book", "thing"] []
 Dh:mg "is_meeting_number" = some (.ref a.Aj)
 Di:zG K (.ref a.Aj)=true
 BT:Fun K "is_walker" "is_walker" EC a.Bp a.Cj
 GR:Binds K a.Cj ["book", "thing"] []
 GL:mg "is_walker" = some (.ref a.Bp)
 GO:zG K (.ref a.Bp)=true
 CY:Fun K "by_time" "by_time" EY a.Cu a.Dr
 E8:Binds K a.Dr ["book", "time"] []
 E4:mg "by_time" = some (.ref a.Cu)
 E6:zG K (.ref a.Cu)=true
 FH:Fun K "ways" "ways" JU a.EU a.Gu
 La:Binds K a.Gu ["book"] []
 K5:mg "ways" = some (.ref a.EU)
 K8:zG K (.ref a.EU)=true
 B9:Fun K "other_at" "other_at" Fm a.BI a.CG
 HI:Binds K a.CG ["book", "number", "walker"] []
 Hs:mg "other_at" = some (.ref a.BI)
 Hw:zG K (.ref a.BI)=true
 Ca:Fun K "lone_row" "lone_row" D3 a.BJ a.CI
 Ke:Binds K a.CI ["book", "walker", "number"] []
 JZ:mg "lone_row" = some (.ref a.BJ)
 J8:zG K (.ref a.BJ)=true
 A0:Fun K "need_meeting" "need_meeting" Du a.AH a.Bh
 HJ:Binds K a.Bh ["book", "meeting"] []
 Ht:mg "need_meeting" = some (.ref a.AH)
 Hy:zG K (.ref a.AH)=true
 CT:Fun K "without" "without" EX a.Cq a.Dm
 E7:Binds K a.Dm ["book", "meeting"] []
 EZ:mg "without" = some (.ref a.Cq)
 E5:zG K (.ref a.Cq)=true
 Aq:Fun K "__init__" "Stream.__init__" wa a.Ai a.AJ
 FX:Binds K a.AJ ["self", "many"] []
 KJ:Meth K a.Aa "__init__" a.Ai
 KI:zG K (.ref a.Ai)=true
 Bc:Fun K "tie" "Stream.tie" D7 a.Bb a.B5
 FW:Binds K a.B5 ["self", "here", "there", "most"] []
 F1:Meth K a.Aa "tie" a.Bb
 Ll:zG K (.ref a.Bb)=true
 AV:Fun K "sent" "Stream.sent" DH a.AR a.BC
 Ii:Binds K a.BC ["self", "tie"] []
 Iq:Meth K a.Aa "sent" a.AR
 Lf:zG K (.ref a.AR)=true
 Av:Fun K "came_to" "Stream.came_to" CB a.Au a.AZ
 DW:Binds K a.AZ ["self", "goal"] []
 DY:Meth K a.Aa "came_to" a.Au
 KP:zG K (.ref a.Au)=true
 Am:Fun K "sent_along" "Stream.sent_along" wS a.Al a.Ax
 Fb:Binds K a.Ax ["self", "came", "goal"] []
 Fe:Meth K a.Aa "sent_along" a.Al
 JT:zG K (.ref a.Al)=true
 AW:Fun K "send" "Stream.send" DI a.AT a.BD
 Ij:Binds K a.BD ["self", "source", "goal"] []
 Ir:Meth K a.Aa "send" a.AT
 Lg:zG K (.ref a.AT)=true
 Bf:Fun K "near" "Stream.near" Fl a.AU a.BE
 Li:Binds K a.BE ["self"] []
 Lj:Meth K a.Aa "near" a.AU
 Lh:zG K (.ref a.AU)=true
 BU:Fun K "is_letter" "is_letter" ED a.Bq a.Ck
 GS:Binds K a.Ck ["book", "thing"] []
 GM:mg "is_letter" = some (.ref a.Bq)
 GP:zG K (.ref a.Bq)=true
 AK:Fun K "first_givings" "first_givings" C8 a.Ay a.A3
 Er:Binds K a.A3 ["book", "sender", "since"] []
 Eo:mg "first_givings" = some (.ref a.Ay)
 Ep:zG K (.ref a.Ay)=true
 AF:Fun K "earliest_times" "earliest_times" Cy a.As a.AX
 DV:Binds K a.AX ["book", "sender", "since"] []
 DT:mg "earliest_times" = some (.ref a.As)
 DU:zG K (.ref a.As)=true
 Cf:Fun K "earliest" "earliest" Ft a.BO a.CO
 Ef:Binds K a.CO ["book", "letter"] []
 Ea:mg "earliest" = some (.ref a.BO)
 Ec:zG K (.ref a.BO)=true
 Ce:Fun K "giver_of" "giver_of" Fs a.BN a.CM
 Ki:Binds K a.CM ["meeting", "sent"] []
 J6:mg "giver_of" = some (.ref a.BN)
 Kc:zG K (.ref a.BN)=true
 Bd:Fun K "givers_sent" "givers_sent" wg a.AO a.BA
 Ig:Binds K a.BA ["book", "letter"] []
 Ia:mg "givers_sent" = some (.ref a.AO)
 Id:zG K (.ref a.AO)=true
 Cg:Fun K "chain_by" "chain_by" Fu a.BP a.CP
 HL:Binds K a.CP ["book", "letter", "givers"] []
 Hv:mg "chain_by" = some (.ref a.BP)
 HH:zG K (.ref a.BP)=true
 Bw:Fun K "two_chains" "two_chains" Dk a.A7 a.B1
 IY:Binds K a.B1 ["book", "letter"] []
 IR:mg "two_chains" = some (.ref a.A7)
 IU:zG K (.ref a.A7)=true
 Dz:Fun K "stands" "stands" Hl a.C7 a.DX
 JA:Binds K a.DX ["book", "letter"] []
 Jq:mg "stands" = some (.ref a.C7)
 Jv:zG K (.ref a.C7)=true
 CW:Fun K "is_lost" "is_lost" F8 a.Ct a.Dq
 KR:Binds K a.Dq ["book", "rest", "letter"] []
 KM:mg "is_lost" = some (.ref a.Ct)
 KO:zG K (.ref a.Ct)=true
 FI:Fun K "lost" "lost" IJ a.EV a.Gv
 Lb:Binds K a.Gv ["book", "letters", "meeting"] []
 K6:mg "lost" = some (.ref a.EV)
 K9:zG K (.ref a.EV)=true
 Cc:Fun K "is_chain" "is_chain" Fp a.BL a.CK
 Kg:Binds K a.CK ["book", "letter", "thing"] []
 J1:mg "is_chain" = some (.ref a.BL)
 Ka:zG K (.ref a.BL)=true
 CZ:Fun K "arrival" "arrival" F9 a.Cv a.Ds
 IF:Binds K a.Ds ["book", "letter", "chain"] []
 IB:mg "arrival" = some (.ref a.Cv)
 ID:zG K (.ref a.Cv)=true
 AG:Fun K "_law_closed_up" "_law_closed_up" Cz a.At a.AY
 Gj:Binds K a.AY ["_law_chain", "_law_number"] []
 Gg:mg "_law_closed_up" = some (.ref a.At)
 Gi:zG K (.ref a.At)=true
 AL:Fun K "_law_one_left" "_law_one_left" C9 a.AA a.A4
 G5:Binds K a.A4 ["_law_book_here", "_law_letter_here", "_law_two", "_law_number"] []
 GZ:mg "_law_one_left" = some (.ref a.AA)
 G2:zG K (.ref a.AA)=true
 AN:Fun K "_law_holds_so" "_law_holds_so" Da a.AC a.A6
 G7:Binds K a.A6 ["_law_book_here", "_law_letter_here", "_law_lost_by"] []
 G1:mg "_law_holds_so" = some (.ref a.AC)
 G4:zG K (.ref a.AC)=true
 GW:Fun K "law" "law" KF a.FZ a.IG
 Ly:Binds K a.IG ["_law_script"] []
 Lx:mg "law" = some (.ref a.FZ)
 k_law:zG K (.ref a.FZ)=true
 b_all:mg "all" = none
 b_bool:mg "bool" = none
 b_enumerate:mg "enumerate" = none
 b_int:mg "int" = none
 b_isinstance:mg "isinstance" = none
 b_len:mg "len" = none
 b_list:mg "list" = none
 b_max:mg "max" = none
 b_min:mg "min" = none
 b_range:mg "range" = none
 b_set:mg "set" = none
 b_sorted:mg "sorted" = none
 b_tuple:mg "tuple" = none
 t_hd:PySem.W.codeHdIn K a.tC a.tP=true
 t_cd:a.Bm.code=.ref a.tC
 K7:mg "Stream" = some (.ref a.Aa)
 Ag:Cls K a.Aa
 Ld:L2.Mk K a.Aa a.Ai
 n_Stream_source:NoAttr K a.Aa "source"
 n_Stream_arcs:NoAttr K a.Aa "arcs"
 n_Stream_ends:NoAttr K a.Aa "ends"
 n_Stream_spare:NoAttr K a.Aa "spare"
 c_LAST_TIME:mg "LAST_TIME" = some (.int 1000000000 a_LAST_TIME)
 c_MOST_WALKERS:mg "MOST_WALKERS" = some (.int 12 a_MOST_WALKERS)
 c_MOST_ROOM:mg "MOST_ROOM" = some (.int 99 a_MOST_ROOM)
 c_MOST_MEETINGS:mg "MOST_MEETINGS" = some (.int 60 a_MOST_MEETINGS)
 c_MOST_MANY:mg "MOST_MANY" = some (.int 99 a_MOST_MANY)
section
variable {P:Program}{w:World}{K:PySem.W.Frag}{mg:Str->Option Value}{base:Heap}{a:Ad}{t_LAST_TIME:Tok}{t_MOST_WALKERS:Tok}{t_MOST_ROOM:Tok}{t_MOST_MEETINGS:Tok}{t_MOST_MANY:Tok}
theorem Lr (T:Tx K mg a t_LAST_TIME t_MOST_WALKERS t_MOST_ROOM t_MOST_MEETINGS t_MOST_MANY) (B:BmAt mg base):FnOk P w K mg base CX0 1 a.DF a.E9 ["k"] (spNever):=⟨λ_ _ _ _ h=>h.elim,λ_ _ _ _ _ _ _ _ _ _ _ _ _ h=>h.elim⟩
theorem Fj:FnScope ["_law_script", "_law_k", "_law_cell", "_law_left"] ["_law_script", "_law_k"] (defScope D6):=⟨rfl,rfl,rfl,by decide +kernel,rfl,by decide +kernel,by decide +kernel⟩
theorem HY (T:Tx K mg a t_LAST_TIME t_MOST_WALKERS t_MOST_ROOM t_MOST_MEETINGS t_MOST_MANY) (B:BmAt mg base):FnOk P w K mg base CX0 1 a.Ba a.B4 ["_law_script", "_law_k"] (spPurse K):=by
 refine T.Bz.ok Fj (λvs H Q E h=>?_) (λcdv A outer s H vs Q E hr h=>?_)
 ·obtain ⟨a,ns,k,rfl,_⟩:=h;rfl
 ·have nd:=Fj.nd
  have hu:=hr.units
  obtain ⟨sa,ns,k,rfl,hS,hk,q⟩:=h
  refine ⟨_,(@xg _ _ _ (@xj _ _ _ _ _ _ (xk (i:=2) nd rfl (by first | exact Or.inl rfl | exact Or.inr rfl) xY) (@xj _ _ _ _ _ _ (@wA _ _ _ _ _ _ _ _ (@xq _ _ _ _ _ _ _ _ op_lt (pv 1) (xp (xo rfl) (by rfl) T.b_len PySem.boot_len (@xV _ _ _ (@xX _ _ _ _ _ (pv 0) xi rfl))) (nomark _)) (@xg _ _ _ (@xu _ _ _ (xk (i:=2) nd rfl (by first | exact Or.inl rfl | exact Or.inr rfl) (@xw _ _ _ _ _ _ _ (xx rfl) (pv 0) (pv 1) (λ_ _=>rfl))))) xv) (@xj _ _ _ _ _ _ (xk (i:=3) nd rfl (by first | exact Or.inl rfl | exact Or.inr rfl) xY) (@xj _ _ _ _ _ _ (@wA _ _ _ _ _ _ _ _ (@xq _ _ _ _ _ _ _ _ op_lt (pv 2) xY (nomark _)) (@xg _ _ _ (@xu _ _ _ (xk (i:=3) nd rfl (by first | exact Or.inl rfl | exact Or.inr rfl) (@xm _ _ _ _ _ _ _ _ op_sub (@pe_un _ _ _ _ _ _ un_neg xY) (pv 2))))) xv) (@xj _ _ _ _ _ _ (@wA _ _ _ _ _ _ _ _ (@xq _ _ _ _ _ _ _ _ op_ge (pv 2) (@xm _ _ _ _ _ _ _ _ op_pow xY xY) (nomark _)) (@xg _ _ _ (@xu _ _ _ (xk (i:=3) nd rfl (by first | exact Or.inl rfl | exact Or.inr rfl) (pv 2)))) xv) (@xu _ _ _ (@xl _ _ _ _ (@wC _ _ _ _ (@xV _ _ _ (@xX _ _ _ _ _ (pv 3) (@xX _ _ _ _ _ (@xm _ _ _ _ _ _ _ _ op_mod (@xm _ _ _ _ _ _ _ _ wG (@xm _ _ _ _ _ _ _ _ wG (@xm _ _ _ _ _ _ _ _ wQ (pv 2) xY) (@xm _ _ _ _ _ _ _ _ wQ (pv 1) xY)) xY) xY) (@xX _ _ _ _ _ xY xi rfl) rfl) rfl))))))))))),?_⟩
  have c18:CPow 10 18:=⟨by decide,by decide,by decide⟩
  have s3:3<=sizeLine:=by rw [sizeLine_eq];decide
  have fin:∀ (x y:Int) p,H p=none->Q (.ref p) (upd H p (.lst [.int x,.int y,.int 0])):=λx y p hp=>q p _ hp ⟨x,y,0,xW⟩ (xa hp)
  have c69:∀ x:Int,CMul x 69:=λx=>.inr ⟨by decide,by decide⟩
  have c405:∀ x:Int,CMul x 40503:=λx=>.inr ⟨by decide,by decide⟩
  refine (zr rfl (zr rfl ⟨sa,zr rfl ⟨.inl hS,zr2 rfl rfl (zr rfl (iteN (fun σ H1=>∃ c:Int,σ=[some (.ref sa),some (.int k),some (.int c),none]/\H=H1) ?_ (λc k0=>?_) (λc=>⟨0,rfl,rfl⟩)))⟩⟩))
  ·rintro σ H1 ⟨c,rfl,rfl⟩
   refine (zr rfl (zr2 rfl rfl (zr rfl (iteN (fun σ H1=>∃ d:Int,σ=[some (.ref sa),some (.int k),some (.int c),some (.int d)]/\H=H1) ?_ (λz k0=>?_) (λz=>⟨0,rfl,rfl⟩)))))
   ·rintro σ H1 ⟨d,rfl,rfl⟩
    refine (zr rfl (zr2 rfl rfl ⟨c18,zr2 rfl rfl (zr rfl (iteN (fun σ H1=>∃ d:Int,σ=[some (.ref sa),some (.int k),some (.int c),some (.int d)]/\H=H1) ?_ (λz k0=>(zr rfl (k0 _ _ ⟨c,rfl,rfl⟩))) (λz=>⟨d,rfl,rfl⟩)))⟩))
    rintro σ H1 ⟨d,rfl,rfl⟩
    exact (zr rfl (zr rfl (zr2 rfl rfl ⟨c69 _,zr rfl (zr2 rfl rfl ⟨c405 _,zr2 rfl rfl (zr2 rfl rfl (zr2 rfl rfl ⟨(by show (0:Int) < 2147483647;decide),s3,fin _ _⟩))⟩)⟩)))
   ·exact (zr rfl (zr rfl (zr2 rfl rfl (k0 _ _ (zr rfl rfl)))))
  ·have hk2:k < ns.length:=by
    have:=of_decide_eq_true c
    rw [zA] at this;omega
   exact (zr rfl (zr rfl ⟨sa,_,zr2 rfl rfl ⟨hS,wF (v:=V.int ns[k]) (by simp [hk2]),k0 _ _ (zr rfl rfl)⟩⟩))
theorem FP:FnScope ["_law_purse_here", "_law_many", "_law_digit", "_law_mixed"] ["_law_purse_here", "_law_many"] (defScope EF):=⟨rfl,rfl,rfl,by decide +kernel,rfl,by decide +kernel,by decide +kernel⟩
theorem wP (T:Tx K mg a t_LAST_TIME t_MOST_WALKERS t_MOST_ROOM t_MOST_MEETINGS t_MOST_MANY) (B:BmAt mg base):FnOk P w K mg base CX0 1 a.Bt a.Cn ["_law_purse_here", "_law_many"] (spTake):=by
 refine T.BX.ok FP (λvs H Q E h=>?_) (λcdv A outer s H vs Q E hr h=>?_)
 ·obtain ⟨p,n,rfl,_⟩:=h;rfl
 ·have nd:=FP.nd
  have hu:=hr.units
  obtain ⟨p,n,rfl,n0,n1,⟨x,y,z,hp⟩,q⟩:=h
  refine ⟨_,(@xg _ _ _ (@xj _ _ _ _ _ _ (@wA _ _ _ _ _ _ _ _ (@xq _ _ _ _ _ _ _ _ op_gt (@xw _ _ _ _ _ _ _ (xx rfl) (pv 0) xY (λ_ _=>rfl)) xY (nomark _)) (@xg _ _ _ (@xj _ _ _ _ _ _ (xk (i:=2) nd rfl (by first | exact Or.inl rfl | exact Or.inr rfl) (@xm _ _ _ _ _ _ _ _ op_mod (@xw _ _ _ _ _ _ _ (xx rfl) (pv 0) xY (λ_ _=>rfl)) (pv 1))) (@xj _ _ _ _ _ _ (wU (@xm _ _ _ _ _ _ _ _ wu (@xw _ _ _ _ _ _ _ (xx rfl) (pv 0) xY (λ_ _=>rfl)) (pv 1)) (pg_sub (pv 0) xY set_list)) (@xu _ _ _ (@xl _ _ _ _ (pv 2)))))) xv) (@xj _ _ _ _ _ _ (ps_augS (pv 0) xY (get_list rfl) xY ip_add set_list) (@xj _ _ _ _ _ _ (xk (i:=3) nd rfl (by first | exact Or.inl rfl | exact Or.inr rfl) (@xm _ _ _ _ _ _ _ _ op_mod (@xm _ _ _ _ _ _ _ _ wQ (@xm _ _ _ _ _ _ _ _ wG (@xw _ _ _ _ _ _ _ (xx rfl) (pv 0) xY (λ_ _=>rfl)) (@xm _ _ _ _ _ _ _ _ wQ (@xw _ _ _ _ _ _ _ (xx rfl) (pv 0) xY (λ_ _=>rfl)) xY)) xY) xY)) (@xj _ _ _ _ _ _ (xk (i:=3) nd rfl (by first | exact Or.inl rfl | exact Or.inr rfl) (@xm _ _ _ _ _ _ _ _ op_mod (@xm _ _ _ _ _ _ _ _ wG (@xm _ _ _ _ _ _ _ _ wG (@xm _ _ _ _ _ _ _ _ wQ (pv 3) (pv 3)) (@xm _ _ _ _ _ _ _ _ wQ (@xw _ _ _ _ _ _ _ (xx rfl) (pv 0) xY (λ_ _=>rfl)) xY)) (@xw _ _ _ _ _ _ _ (xx rfl) (pv 0) xY (λ_ _=>rfl))) xY)) (@xu _ _ _ (@xl _ _ _ _ (@xm _ _ _ _ _ _ _ _ op_mod (@xm _ _ _ _ _ _ _ _ wu (@xm _ _ _ _ _ _ _ _ op_mod (@xm _ _ _ _ _ _ _ _ wQ (pv 3) xY) xY) xY) (pv 1))))))))),?_⟩
  have hS:SqL K H p _:=SqL.of hp
  have cm:∀ x c:Int,-(2 ^ 64) < c->c < 2 ^ 64->CMul x c:=λx c h h'=>.inr ⟨h,h'⟩
  refine (zr rfl ⟨p,_,zr2 rfl rfl ⟨hS,rfl,zr2 rfl rfl (zr rfl (iteD (λh1=>?_) λh1=>?_))⟩⟩)
  ·refine (zr rfl ⟨p,_,zr2 rfl rfl ⟨hS,rfl,zr rfl (zr2 rfl rfl ⟨n0,?_⟩)⟩⟩)
   refine (zr rfl ⟨p,_,zr2 rfl rfl ⟨hS,rfl,zr rfl (zr2 rfl rfl ⟨⟨n0,n1⟩,zr rfl ⟨p,_,_,0,rfl,rfl,hp,rfl,?_⟩⟩)⟩⟩)
   exact (zr rfl (q _ _ (yj _ (by omega)) (yU _ n0) ⟨But.set,_,_,_,xW⟩))
  ·refine (zr rfl ⟨p,_,zr2 rfl rfl ⟨hS,rfl,zr2 rfl rfl ⟨p,_,_,2,rfl,rfl,hp,rfl,?_⟩⟩⟩)
   have h2:(upd H p (HO.lst ([V.int x,V.int y,V.int z].set 2 (.int (z + 1))))) p=some (.lst [V.int x,V.int y,V.int (z + 1)]):=xW
   have b2:But p H (upd H p (HO.lst ([V.int x,V.int y,V.int z].set 2 (.int (z + 1))))):=But.set
   generalize upd H p (HO.lst ([V.int x,V.int y,V.int z].set 2 (.int (z + 1))))=H2 at h2 b2 ⊢
   have hS2:SqL K H2 p _:=SqL.of h2
   have big:(2147483647:Int) < 2 ^ 64:=by decide
   have low:-(2:Int) ^ 64 < 0:=by decide
   have pos:(0:Int) < 2147483647:=by decide
   refine (zr rfl ⟨p,_,zr2 rfl rfl ⟨hS2,rfl,zr rfl ⟨p,_,zr2 rfl rfl ⟨hS2,rfl,zr2 rfl rfl ⟨cm _ _ (by decide) (by decide),zr2 rfl rfl (zr2 rfl rfl ⟨cm _ _ (by decide) (by decide),zr2 rfl rfl ⟨(by show (0:Int) < 2147483647;decide),?_⟩⟩)⟩⟩⟩⟩⟩)
   have m0:=yj ((y + (z + 1) * 362437) * 48271) (show (2147483647:Int)≠0 by decide)
   have m1:=yU ((y + (z + 1) * 362437) * 48271) pos
   refine (zr rfl (zr rfl (zr2 rfl rfl ⟨.inl ⟨Int.lt_of_lt_of_le low m0,Int.lt_trans m1 big⟩,zr rfl ⟨p,_,zr2 rfl rfl ⟨hS2,rfl,zr2 rfl rfl ⟨cm _ _ (by decide) (by decide),zr2 rfl rfl (zr rfl ⟨p,_,zr2 rfl rfl ⟨hS2,rfl,zr2 rfl rfl (zr2 rfl rfl ⟨(by show (0:Int) < 2147483629;decide),?_⟩)⟩⟩)⟩⟩⟩⟩)))
   refine (zr rfl (zr2 rfl rfl ⟨cm _ _ (by decide) (by decide),zr2 rfl rfl ⟨(by show (0:Int) < 2147483563;decide),zr2 rfl rfl ⟨⟨by decide,by decide⟩,zr rfl (zr2 rfl rfl ⟨n0,?_⟩)⟩⟩⟩))
   exact q _ _ (yj _ (by omega)) (yU _ n0) ⟨b2,_,_,_,h2⟩
theorem GI:FnScope ["_law_purse_here", "_law_high"] ["_law_purse_here"] (defScope Fv):=⟨rfl,rfl,rfl,by decide +kernel,rfl,by decide +kernel,by decide +kernel⟩
theorem Jp (T:Tx K mg a t_LAST_TIME t_MOST_WALKERS t_MOST_ROOM t_MOST_MEETINGS t_MOST_MANY) (B:BmAt mg base):FnOk P w K mg base CX0 2 a.BQ a.CQ ["_law_purse_here"] (spFar):=by
 have Ab:=@wP P w _ _ base _ _ _ _ _ _ T B
 refine T.Ch.ok GI (λvs H Q E h=>?_) (λcdv A outer s H vs Q E hr h=>?_)
 ·obtain ⟨p,rfl,_⟩:=h;rfl
 ·have nd:=GI.nd
  have hu:=hr.units
  obtain ⟨p,rfl,hp,q⟩:=h
  refine ⟨_,(@xg _ _ _ (@xj _ _ _ _ _ _ (xk (i:=1) nd rfl (by first | exact Or.inl rfl | exact Or.inr rfl) (xh Ab (hr.mono (by decide)) rfl T.Ac T.Ae T.Af .nil pass0 (@xV _ _ _ (@xX _ _ _ _ _ (pv 0) (@xX _ _ _ _ _ xY xi rfl) rfl)))) (@xu _ _ _ (@xl _ _ _ _ (@xm _ _ _ _ _ _ _ _ op_mod (@xm _ _ _ _ _ _ _ _ wG (@xm _ _ _ _ _ _ _ _ wQ (pv 1) xY) (xh Ab (hr.mono (by decide)) rfl T.Ac T.Ae T.Af .nil pass0 (@xV _ _ _ (@xX _ _ _ _ _ (pv 0) (@xX _ _ _ _ _ xY xi rfl) rfl)))) (@xm _ _ _ _ _ _ _ _ wG (@xm _ _ _ _ _ _ _ _ op_pow xY xY) xY)))))),?_⟩
  refine (zr rfl ⟨p,zr rfl ⟨by decide,by decide,hp,λd H1 d0 d1 g1=>(zr rfl (zr2 rfl rfl ⟨.inr ⟨by decide,by decide⟩,zr rfl ⟨p,zr rfl ⟨by decide,by decide,g1.2,λe H2 e0 e1 g2=>(zr2 rfl rfl (zr2 rfl rfl ⟨⟨by decide,by decide,by decide⟩,zr2 rfl rfl (zr2 rfl rfl ⟨(by show (0:Int) < 10 ^ Int.toNat 9 + 1;decide),?_⟩)⟩))⟩⟩⟩))⟩⟩)
  have e9:(10:Int) ^ Int.toNat 9 + 1=1000000001:=by decide
  rw [e9]
  exact q _ _ (yj _ (by decide)) (Int.lt_add_one_iff.mp (yU _ (by decide))) (g1.trans g2)
theorem Fi:FnScope ["_law_purse_here", "_law_walkers", "_law_rooms_here", "_law_walker", "_law_room"] ["_law_purse_here", "_law_walkers"] (defScope D5):=⟨rfl,rfl,rfl,by decide +kernel,rfl,by decide +kernel,by decide +kernel⟩
theorem HX (T:Tx K mg a t_LAST_TIME t_MOST_WALKERS t_MOST_ROOM t_MOST_MEETINGS t_MOST_MANY) (B:BmAt mg base):FnOk P w K mg base CX0 2 a.A9 a.B3 ["_law_purse_here", "_law_walkers"] (spRooms):=by
 have Ab:=@wP P w _ _ base _ _ _ _ _ _ T B
 refine T.By.ok Fi (λvs H Q E h=>?_) (λcdv A outer s H vs Q E hr h=>?_)
 ·obtain ⟨p,n,rfl,_⟩:=h;rfl
 ·have nd:=Fi.nd
  have hu:=hr.units
  obtain ⟨p,n,rfl,hn,hp,q⟩:=h
  refine ⟨_,(@xg _ _ _ (@xj _ _ _ _ _ _ (xk (i:=2) nd rfl (by first | exact Or.inl rfl | exact Or.inr rfl) (@wC _ _ _ _ wK)) (@xj _ _ _ _ _ _ (wV PassesOwn.never rfl (wc rfl T.b_range (@xV _ _ _ (@xX _ _ _ _ _ (pv 1) xi rfl))) (xc (i:=3) nd rfl (by first | exact Or.inl rfl | exact Or.inr rfl)) (@xg _ _ _ (@xj _ _ _ _ _ _ (xk (i:=4) nd rfl (by first | exact Or.inl rfl | exact Or.inr rfl) (@xm _ _ _ _ _ _ _ _ wu (xh Ab (hr.mono (by decide)) rfl T.Ac T.Ae T.Af .nil pass0 (@xV _ _ _ (@xX _ _ _ _ _ (pv 0) (@xX _ _ _ _ _ xY xi rfl) rfl))) xY)) (@xj _ _ _ _ _ _ (@wA _ _ _ _ _ _ _ _ (@xq _ _ _ _ _ _ _ _ wt (pv 4) xY (nomark _)) (@xg _ _ _ (@xu _ _ _ (xk (i:=4) nd rfl (by first | exact Or.inl rfl | exact Or.inr rfl) (xh Ab (hr.mono (by decide)) rfl T.Ac T.Ae T.Af .nil pass0 (@xV _ _ _ (@xX _ _ _ _ _ (pv 0) (@xX _ _ _ _ _ xY xi rfl) rfl)))))) xv) (@xu _ _ _ (wJ (pe_bm zd zZ za wI (pv 2) (@xV _ _ _ (@xX _ _ _ _ _ (pv 4) xi rfl))))))))) (@xu _ _ _ (@xl _ _ _ _ (pe_callTy (call_tuple_of) (by rfl) T.b_tuple yO (@xV _ _ _ (@xX _ _ _ _ _ (pv 2) xi rfl)))))))),?_⟩
  have line:1001<=sizeLine:=by rw [sizeLine_eq];decide
  refine ⟨zc _,λl hl=>?_⟩
  have npl:=hp.ne hl
  refine (zr rfl (zr rfl ⟨by omega,by omega,?_⟩))
  refine wd (lo:=0) (n:=n) (λi σ H2=>∃ v3 v4 rs,σ=[some (.ref p),some (.int n),some (.ref l),v3,v4]/\H2 l=some (.lst (List.map V.int rs))/\rs.length=i/\(∀ r∈rs,(0:Int)<=r/\r<=99)/\Go p H H2)
   ⟨_,_,[],rfl,xW,rfl,(λ_ z=>nomatch z),(Go.refl hp).new hl⟩ ?_ ?_
  ·rintro i σ H2 hi ⟨v3,v4,rs,rfl,h2,hlen,hr,go⟩
   refine (zr rfl ⟨p,zr rfl ⟨by decide,by decide,go.2,λd H3 d0 d1 g3=>(zr2 rfl rfl ⟨⟨by decide,by decide⟩,?_⟩)⟩⟩)
   refine (zr rfl ⟨rfl,zr rfl (iteN (fun σ H4=>∃ x:Int,σ=[some (.ref p),some (.int n),some (.ref l),some (.int (0 + (i:Int))),some (.int x)]/\0<=x/\x<=99/\Go p H2 H4) ?_ (λc k0=>(zr rfl ⟨p,zr rfl ⟨by decide,by decide,g3.2,λe H4 e0 e1 g4=>k0 _ _ ⟨e,rfl,e0,by omega,g3.trans g4⟩⟩⟩)) (λc=>(zr rfl ⟨by omega,by omega,g3⟩)))⟩)
   rintro σ H4 ⟨x,rfl,x0,x1,g4⟩
   have h4:=g4.1 l _ npl h2
   refine (zr rfl ⟨.inl ⟨rfl,_,SqL.of h4⟩,zr rfl ⟨l,zr2 rfl rfl ⟨h4,by rw [zA];omega,_,_,rs++[x],rfl,by rw [xW,zK];rfl,by simp [hlen],λr hr'=>?_,?_⟩⟩⟩)
   ·rcases zT.mp hr' with h | h
    ·exact hr r h
    ·cases zF.mp h;exact ⟨x0,x1⟩
   ·have g2:=go.trans g4
    refine ⟨λb u nb e=>?_,?_⟩
    ·rw [xb (xZ e hl)];exact g2.1 b u nb e
    ·obtain ⟨a,b,c,e⟩:=g2.2
     exact ⟨a,b,c,by rw [xb npl.symm];exact e⟩
  ·rintro σ H2 ⟨v3,v4,rs,rfl,h2,hlen,hr,go⟩
   exact (zr rfl ⟨l,zr rfl (.inl ⟨SqL.of h2,λt ht=>q t rs _ (go.new ht) xW hlen hr⟩)⟩)
theorem FQ:FnScope ["_law_purse_here", "_law_way"] ["_law_purse_here"] (defScope EG):=⟨rfl,rfl,rfl,by decide +kernel,rfl,by decide +kernel,by decide +kernel⟩
theorem IO (T:Tx K mg a t_LAST_TIME t_MOST_WALKERS t_MOST_ROOM t_MOST_MEETINGS t_MOST_MANY) (B:BmAt mg base):FnOk P w K mg base CX0 2 a.Bu a.Co ["_law_purse_here"] (spStep):=by
 have Ab:=@wP P w _ _ base _ _ _ _ _ _ T B
 refine T.BY.ok FQ (λvs H Q E h=>?_) (λcdv A outer s H vs Q E hr h=>?_)
 ·obtain ⟨p,rfl,_⟩:=h;rfl
 ·have nd:=FQ.nd
  have hu:=hr.units
  obtain ⟨p,rfl,hp,q⟩:=h
  refine ⟨_,(@xg _ _ _ (@xj _ _ _ _ _ _ (xk (i:=1) nd rfl (by first | exact Or.inl rfl | exact Or.inr rfl) (xh Ab (hr.mono (by decide)) rfl T.Ac T.Ae T.Af .nil pass0 (@xV _ _ _ (@xX _ _ _ _ _ (pv 0) (@xX _ _ _ _ _ xY xi rfl) rfl)))) (@xj _ _ _ _ _ _ (@wA _ _ _ _ _ _ _ _ (@xq _ _ _ _ _ _ _ _ op_lt (pv 1) xY (nomark _)) (@xg _ _ _ (@xu _ _ _ (@xl _ _ _ _ (@xw _ _ _ _ _ _ _ (xx rfl) (@wC _ _ _ _ (@xV _ _ _ (@xX _ _ _ _ _ xY (@xX _ _ _ _ _ xY (@xX _ _ _ _ _ xY xi rfl) rfl) rfl))) (pv 1) (λ_ _=>rfl))))) xv) (@xj _ _ _ _ _ _ (@wA _ _ _ _ _ _ _ _ (@xq _ _ _ _ _ _ _ _ wt (pv 1) xY (nomark _)) (@xg _ _ _ (@xu _ _ _ (@xl _ _ _ _ (@xm _ _ _ _ _ _ _ _ wG xY (xh Ab (hr.mono (by decide)) rfl T.Ac T.Ae T.Af .nil pass0 (@xV _ _ _ (@xX _ _ _ _ _ (pv 0) (@xX _ _ _ _ _ xY xi rfl) rfl))))))) xv) (@xu _ _ _ (@xl _ _ _ _ (@xm _ _ _ _ _ _ _ _ wG xY (xh Ab (hr.mono (by decide)) rfl T.Ac T.Ae T.Af .nil pass0 (@xV _ _ _ (@xX _ _ _ _ _ (pv 0) (@xX _ _ _ _ _ (@xm _ _ _ _ _ _ _ _ wQ xY (@xm _ _ _ _ _ _ _ _ op_pow xY xY)) xi rfl) rfl)))))))))),?_⟩
  have s3:3<=sizeLine:=by rw [sizeLine_eq];decide
  refine (zr rfl ⟨p,zr rfl ⟨by decide,by decide,hp,λd H1 d0 d1 g1=>(zr rfl (zr2 rfl rfl (zr rfl (iteD (λh1=>?_) λh1=>?_))))⟩⟩)
  ·obtain ⟨v,hv,v0,v1⟩:∃ v:Int,atI [V.int 0,V.int 1,V.int 1] d=some (V.int v)/\0<=v/\v<=1:=by
    obtain rfl | rfl | rfl:d=0\/d=1\/d=2:=by omega
    ·exact ⟨0,rfl,by decide,by decide⟩
    ·exact ⟨1,rfl,by decide,by decide⟩
    ·exact ⟨1,rfl,by decide,by decide⟩
   exact ⟨s3,λl hl=>(zr rfl (ixl xW hv (q _ _ v0 (by omega) (g1.new hl))))⟩
  ·refine (zr rfl ⟨rfl,zr rfl (iteD (λh2=>?_) λh2=>?_)⟩)
   ·exact (zr rfl ⟨p,zr rfl ⟨by decide,by decide,g1.2,λe H2 e0 e1 g2=>(zr2 rfl rfl (q _ _ (by omega) (by omega) (g1.trans g2)))⟩⟩)
   ·have e16:(16:Int) * 10 ^ Int.toNat 6=16000000:=by decide
    refine (zr rfl (zr2 rfl rfl ⟨⟨by decide,by decide,by decide⟩,zr2 rfl rfl ⟨.inl ⟨by decide,by decide⟩,p,zr rfl ⟨by decide,by decide,g1.2,λe H2 e0 e1 g2=>(zr2 rfl rfl (q _ _ (by omega) (by rw [e16] at e1;omega) (g1.trans g2)))⟩⟩⟩))
theorem DQ:FnScope ["_law_purse_here", "_law_walkers", "_law_most", "_law_found", "_law_when", "_law_busy", "_law_k", "_law_one", "_law_other", "_law_gap", "_law_passed", "_law_late"] ["_law_purse_here", "_law_walkers", "_law_most"] (defScope wo):=⟨rfl,rfl,rfl,by decide +kernel,rfl,by decide +kernel,by decide +kernel⟩
theorem Gd (T:Tx K mg a t_LAST_TIME t_MOST_WALKERS t_MOST_ROOM t_MOST_MEETINGS t_MOST_MANY) (B:BmAt mg base):FnOk P w K mg base CX0 3 a.AB a.A5 ["_law_purse_here", "_law_walkers", "_law_most"] (spMeetings):=by
 have Ab:=@wP P w _ _ base _ _ _ _ _ _ T B
 have JR:=@IO P w _ _ base _ _ _ _ _ _ T B
 refine T.AM.ok DQ (λvs H Q E h=>?_) (λcdv A outer s H vs Q E hr h=>?_)
 ·obtain ⟨p,w,n,rfl,_⟩:=h;rfl
 ·have nd:=DQ.nd
  have hu:=hr.units
  obtain ⟨p,w,n,rfl,hn,w9,hw,hp,q⟩:=h
  refine ⟨_,(@xg _ _ _ (@xj _ _ _ _ _ _ (xk (i:=3) nd rfl (by first | exact Or.inl rfl | exact Or.inr rfl) (@wC _ _ _ _ wK)) (@xj _ _ _ _ _ _ (xk (i:=4) nd rfl (by first | exact Or.inl rfl | exact Or.inr rfl) (@xm _ _ _ _ _ _ _ _ wG xY (@xm _ _ _ _ _ _ _ _ wQ (@xm _ _ _ _ _ _ _ _ wu (xh Ab (hr.mono (by decide)) rfl T.Ac T.Ae T.Af .nil pass0 (@xV _ _ _ (@xX _ _ _ _ _ (pv 0) (@xX _ _ _ _ _ xY xi rfl) rfl))) xY) (xh Ab (hr.mono (by decide)) rfl T.Ac T.Ae T.Af .nil pass0 (@xV _ _ _ (@xX _ _ _ _ _ (pv 0) (@xX _ _ _ _ _ (@xm _ _ _ _ _ _ _ _ op_pow xY xY) xi rfl) rfl)))))) (@xj _ _ _ _ _ _ (xk (i:=5) nd rfl (by first | exact Or.inl rfl | exact Or.inr rfl) (@wC _ _ _ _ wK)) (@xj _ _ _ _ _ _ (wV PassesOwn.never rfl (wc rfl T.b_range (@xV _ _ _ (@xX _ _ _ _ _ (pv 2) xi rfl))) (xc (i:=6) nd rfl (by first | exact Or.inl rfl | exact Or.inr rfl)) (@xg _ _ _ (@xj _ _ _ _ _ _ (xk (i:=7) nd rfl (by first | exact Or.inl rfl | exact Or.inr rfl) (xh Ab (hr.mono (by decide)) rfl T.Ac T.Ae T.Af .nil pass0 (@xV _ _ _ (@xX _ _ _ _ _ (pv 0) (@xX _ _ _ _ _ (pv 1) xi rfl) rfl)))) (@xj _ _ _ _ _ _ (xk (i:=8) nd rfl (by first | exact Or.inl rfl | exact Or.inr rfl) (@xm _ _ _ _ _ _ _ _ op_mod (@xm _ _ _ _ _ _ _ _ wG (@xm _ _ _ _ _ _ _ _ wG (pv 7) xY) (xh Ab (hr.mono (by decide)) rfl T.Ac T.Ae T.Af .nil pass0 (@xV _ _ _ (@xX _ _ _ _ _ (pv 0) (@xX _ _ _ _ _ (@xm _ _ _ _ _ _ _ _ op_sub (pv 1) xY) xi rfl) rfl)))) (pv 1))) (@xj _ _ _ _ _ _ (xk (i:=9) nd rfl (by first | exact Or.inl rfl | exact Or.inr rfl) (xh JR (hr.mono (by decide)) rfl T.Jt T.Jy T.JD .nil pass0 (@xV _ _ _ (@xX _ _ _ _ _ (pv 0) xi rfl)))) (@xj _ _ _ _ _ _ (@wA _ _ _ _ _ _ _ _ (@PW.pt _ _ _ (@pw_or _ _ _ _ _ _ _ (@xq _ _ _ _ _ _ _ _ (op_in_seq' rfl) (pv 7) (pv 5) rfl) (@pw_or1 _ _ _ _ (@xq _ _ _ _ _ _ _ _ (op_in_seq' rfl) (pv 8) (pv 5) rfl)))) (@xg _ _ _ (@xu _ _ _ (xk (i:=9) nd rfl (by first | exact Or.inl rfl | exact Or.inr rfl) (xp (call_max2 rfl) (by rfl) T.b_max PyProof.Rows.boot_max (@xV _ _ _ (@xX _ _ _ _ _ xY (@xX _ _ _ _ _ (pv 9) xi rfl) rfl)))))) xv) (@xj _ _ _ _ _ _ (@wA _ _ _ _ _ _ _ _ (@xq _ _ _ _ _ _ _ _ op_gt (pv 9) xY (nomark _)) (@xg _ _ _ (@xu _ _ _ (xk (i:=5) nd rfl (by first | exact Or.inl rfl | exact Or.inr rfl) (@wC _ _ _ _ wK)))) xv) (@xj _ _ _ _ _ _ (xk (i:=4) nd rfl (by first | exact Or.inl rfl | exact Or.inr rfl) (@xm _ _ _ _ _ _ _ _ wG (pv 4) (pv 9))) (@xj _ _ _ _ _ _ (xk (i:=5) nd rfl (by first | exact Or.inl rfl | exact Or.inr rfl) (@xm _ _ _ _ _ _ _ _ op_cat (pv 5) (@wC _ _ _ _ (@xV _ _ _ (@xX _ _ _ _ _ (pv 7) (@xX _ _ _ _ _ (pv 8) xi rfl) rfl))))) (@xj _ _ _ _ _ _ (xk (i:=10) nd rfl (by first | exact Or.inl rfl | exact Or.inr rfl) (@xm _ _ _ _ _ _ _ _ wG xY (@xm _ _ _ _ _ _ _ _ wu (xh Ab (hr.mono (by decide)) rfl T.Ac T.Ae T.Af .nil pass0 (@xV _ _ _ (@xX _ _ _ _ _ (pv 0) (@xX _ _ _ _ _ xY xi rfl) rfl))) xY))) (@xj _ _ _ _ _ _ (@wA _ _ _ _ _ _ _ _ (@xq _ _ _ _ _ _ _ _ wt (xh Ab (hr.mono (by decide)) rfl T.Ac T.Ae T.Af .nil pass0 (@xV _ _ _ (@xX _ _ _ _ _ (pv 0) (@xX _ _ _ _ _ xY xi rfl) rfl))) xY (nomark _)) (@xg _ _ _ (@xu _ _ _ (xk (i:=10) nd rfl (by first | exact Or.inl rfl | exact Or.inr rfl) (@xm _ _ _ _ _ _ _ _ wG xY (xh Ab (hr.mono (by decide)) rfl T.Ac T.Ae T.Af .nil pass0 (@xV _ _ _ (@xX _ _ _ _ _ (pv 0) (@xX _ _ _ _ _ xY xi rfl) rfl))))))) xv) (@xu _ _ _ (wJ (pe_bm zd zZ za wI (pv 3) (@xV _ _ _ (@xX _ _ _ _ _ (@wO _ _ _ _ _ (@xV _ _ _ (@xX _ _ _ _ _ (pv 4) (@xX _ _ _ _ _ (xp (call_min2 rfl) (by rfl) T.b_min yi (@xV _ _ _ (@xX _ _ _ _ _ (pv 7) (@xX _ _ _ _ _ (pv 8) xi rfl) rfl))) (@xX _ _ _ _ _ (xp (call_max2 rfl) (by rfl) T.b_max PyProof.Rows.boot_max (@xV _ _ _ (@xX _ _ _ _ _ (pv 7) (@xX _ _ _ _ _ (pv 8) xi rfl) rfl))) (@xX _ _ _ _ _ (pv 10) xi rfl) rfl) rfl) rfl))) xi rfl)))))))))))))))) (@xj _ _ _ _ _ _ (xk (i:=11) nd rfl (by first | exact Or.inl rfl | exact Or.inr rfl) xY) (@xj _ _ _ _ _ _ (@wA _ _ _ _ _ _ _ _ (@PW.pt _ _ _ (@pw_and _ _ _ _ _ _ _ (@xq _ _ _ _ _ _ _ _ wt (xh Ab (hr.mono (by decide)) rfl T.Ac T.Ae T.Af .nil pass0 (@xV _ _ _ (@xX _ _ _ _ _ (pv 0) (@xX _ _ _ _ _ xY xi rfl) rfl))) xY (nomark _)) (@pw_and1 _ _ _ _ (@xq _ _ _ _ _ _ _ _ (op_neNil hu) (pv 3) (@wC _ _ _ _ wK) (nomark _))))) (@xg _ _ _ (@xu _ _ _ (xk (i:=11) nd rfl (by first | exact Or.inl rfl | exact Or.inr rfl) (@xm _ _ _ _ _ _ _ _ op_sub (@xm _ _ _ _ _ _ _ _ op_pow xY xY) (pv 4))))) xv) (@xu _ _ _ (@xl _ _ _ _ (pe_callTy (call_tuple_of) (by rfl) T.b_tuple yO (@xV _ _ _ (@xX _ _ _ _ _ (pe_comp (own:=["_law_then", "_law_low", "_law_high", "_law_room"]) (caps:=[11]) rfl (show CompScope ["_law_then", "_law_low", "_law_high", "_law_room"] [11] ["_law_purse_here", "_law_walkers", "_law_most", "_law_found", "_law_when", "_law_busy", "_law_k", "_law_one", "_law_other", "_law_gap", "_law_passed", "_law_late"] (defScope wo) _ from ⟨rfl,by decide +kernel,by decide +kernel,by decide +kernel,by decide +kernel⟩) (@wN _ _ _ _ _ rfl (xp (call_sortT) (by rfl) T.b_sorted PyProof.Rows.boot_sorted (@xV _ _ _ (@xX _ _ _ _ _ (pv 3) xi rfl)))) (λ_ _ _ _=>(wD (n:=4) rfl rfl (xf (xc (i:=0) (show List.Nodup (["_law_then", "_law_low", "_law_high", "_law_room", "_law_late"]:List Str) from by decide +kernel) rfl (by first | exact Or.inl rfl | exact Or.inr rfl)) (xf (xc (i:=1) (show List.Nodup (["_law_then", "_law_low", "_law_high", "_law_room", "_law_late"]:List Str) from by decide +kernel) rfl (by first | exact Or.inl rfl | exact Or.inr rfl)) (xf (xc (i:=2) (show List.Nodup (["_law_then", "_law_low", "_law_high", "_law_room", "_law_late"]:List Str) from by decide +kernel) rfl (by first | exact Or.inl rfl | exact Or.inr rfl)) (xf (xc (i:=3) (show List.Nodup (["_law_then", "_law_low", "_law_high", "_law_room", "_law_late"]:List Str) from by decide +kernel) rfl (by first | exact Or.inl rfl | exact Or.inr rfl)) wB)))))) (λ_ _ _ _=>pts_nil) (λ_ _ _ _=>(@wO _ _ _ _ _ (@xV _ _ _ (@xX _ _ _ _ _ (pv 1) (@xX _ _ _ _ _ (pv 2) (@xX _ _ _ _ _ (@xm _ _ _ _ _ _ _ _ wG (pv 0) (pv 4)) (@xX _ _ _ _ _ (pv 3) xi rfl) rfl) rfl) rfl))))) xi rfl)))))))))))),?_⟩
  have line:1001<=sizeLine:=by rw [sizeLine_eq];decide
  have c7:CPow 10 7:=⟨by decide,by decide,by decide⟩
  have e7:(10:Int) ^ Int.toNat 7=10000000:=by decide
  have e64:(2:Int) ^ 64 > 1000:=by decide
  have e200:(2:Int) ^ 200 > 1000:=by decide
  refine ⟨zc _,λlf hlf=>?_⟩
  have npf:=hp.ne hlf
  have hp1:Purse (upd H lf (.lst [])) p:=hp.new hlf
  refine (zr rfl ⟨p,zr rfl ⟨by decide,by decide,hp1,λd H1 d0 d1 g1=>(zr2 rfl rfl ⟨⟨by decide,by decide⟩,zr rfl (zr2 rfl rfl ⟨c7,?_⟩)⟩)⟩⟩)
  refine ⟨p,zr rfl ⟨by decide,by decide,g1.2,λd2 H2 d20 d21 g2=>(zr2 rfl rfl ⟨.inl ⟨by omega,by omega⟩,zr2 rfl rfl ?_⟩)⟩⟩
  rw [e7] at d21
  refine ⟨zc _,λlb hlb=>?_⟩
  have fr2:=g1.trans g2
  have hlf2:H2 lf=some (.lst []):=fr2.1 lf _ npf xW
  have go0:Go p H H2:=((Go.refl hp).new hlf).trans fr2
  refine (zr rfl (zr rfl ⟨by omega,by omega,?_⟩))
  have wh0:1<=1 + d / 2 * d2/\1 + d / 2 * d2<=10000000:=by
   obtain h | h:d / 2=0\/d / 2=1:=by omega
   ·rw [h];omega
   ·rw [h];omega
  refine wd (lo:=0) (n:=n) (PvM p lf w n H)
   ⟨_,_,_,_,_,_,lb,[],[],rfl,by rw [xb (xZ hlf2 hlb)];exact hlf2,xW,(xZ hlf2 hlb).symm,go0.2.ne hlb,(λ_ z=>nomatch z),⟨(λ_ z=>nomatch z),.nil,(λ_ z=>nomatch z)⟩,rfl,by simp,wh0.1,(by have:=wh0.2;simpa using this),go0.new hlb⟩ ?_ ?_
  ·rintro i σ H3 hi ⟨v6,v7,v8,v9,v10,wh,lb,bs,fs,rfl,h3f,h3b,nbf,nbp,h3r,F,lenf,lenb,wh1,wh2,go⟩
   have w2:2<=w:=by omega
   refine (zr rfl (zr rfl ⟨p,w,rfl,by omega,by omega,go.2,λone H4 o0 o1 g4=>?_⟩))
   refine (zr rfl (zr2 rfl rfl (zr rfl (zr rfl (zr2 rfl rfl ⟨p,zr rfl ⟨by omega,by omega,g4.2,λx H5 x0 x1 g5=>(zr2 rfl rfl (zr rfl (zr2 rfl rfl ⟨by omega,?_⟩)))⟩⟩)))))
   have ot:=oth_ok o0 o1 x0 x1
   refine (zr rfl ⟨p,rfl,g5.2,λgap H6 gap0 gap1 g6=>?_⟩)
   have g46:=g4.trans (g5.trans g6)
   have hb6:=g46.1 lb _ nbp h3b
   have hf6:=g46.1 lf _ npf h3f
   refine (zr rfl (zr rfl ⟨lb,zr rfl ⟨.inl (SqL.of hb6),rfl,flat_ints bs,zr rfl (iteO (fun σ H7=>∃ gp:Int,σ=[some (.ref p),some (.int w),some (.int n),some (.ref lf),some (.int wh),some (.ref lb),some (.int (0 + (i:Int))),some (.int one),some (.int ((one + 1 + x) % w)),some (.int gp),v10,none]/\H6=H7/\0<=gp/\gp<=16000000/\(gp=0->one ∉ bs/\(one + 1 + x) % w ∉ bs)) ?_ (λc1 k0=>?_) (λc1 k0=>(zr rfl (zr rfl ⟨lb,zr rfl ⟨.inl (SqL.of hb6),rfl,flat_ints bs,zr rfl (iteB (λc2=>?_) (λc2=>?_))⟩⟩))))⟩⟩))
   rotate_left
   ·exact (zr rfl (zr1 rfl (k0 _ _ (zr rfl ⟨rfl,by split <;> omega,by split <;> omega,λz=>by split at z <;> omega⟩))))
   ·exact (zr rfl (zr1 rfl (k0 _ _ (zr rfl ⟨rfl,by split <;> omega,by split <;> omega,λz=>by split at z <;> omega⟩))))
   ·have c1':one ∉ bs:=of_decide_eq_false (inV_ints.symm.trans c1)
    have c2':(one + 1 + x) % w ∉ bs:=of_decide_eq_false (inV_ints.symm.trans c2)
    exact k0 _ _ ⟨gap,rfl,rfl,by omega,by omega,λ_=>⟨c1',c2'⟩⟩
   rintro σ H7 ⟨gp,rfl,rfl,gp0,gp1,hg⟩
   refine (zr rfl (zr2 rfl rfl (zr rfl (iteN (fun σ H7=>∃ ly bz,σ=[some (.ref p),some (.int w),some (.int n),some (.ref lf),some (.int wh),some (.ref ly),some (.int (0 + (i:Int))),some (.int one),some (.int ((one + 1 + x) % w)),some (.int gp),v10,none]/\Go p H3 H7/\H7 ly=some (.lst (List.map V.int bz))/\ly≠p/\bz.length<=2 * i/\∀ z∈bs,gp=0->z∈bz) ?_ (λc3 k0=>⟨zc _,λln hln=>k0 _ _ ⟨ln,[],rfl,g46.new hln,xW,g46.2.ne hln,zc _,λ_ _ z=>by have:=of_decide_eq_true c3;omega⟩⟩) (λc3=>⟨lb,bs,rfl,g46,hb6,nbp,lenb,λ_ z _=>z⟩)))))
   rintro σ H7 ⟨ly,bz,rfl,gy,hyb,nyp,leny,hb0⟩
   have h3f':=gy.1 lf _ npf h3f
   refine (zr rfl (zr rfl (zr2 rfl rfl ?_)))
   refine (zr rfl (zr rfl (zr rfl ⟨by show 2<=sizeLine;omega,λl2 hl2=>?_⟩)))
   have g2':=gy.new (o:=HO.lst [V.int one,V.int ((one + 1 + x) % w)]) hl2
   have hyb2:=xa (o:=HO.lst [V.int one,V.int ((one + 1 + x) % w)]) hl2 _ _ hyb
   have h22:(upd H7 l2 (HO.lst [V.int one,V.int ((one + 1 + x) % w)])) l2=some (.lst [V.int one,V.int ((one + 1 + x) % w)]):=xW
   generalize upd H7 l2 (HO.lst [V.int one,V.int ((one + 1 + x) % w)])=H8 at g2' hyb2 h22 ⊢
   refine ⟨ly,l2,zr2 rfl rfl ⟨hyb2,h22,(by simp only [zA,zW,yH];omega),λl3 hl3=>?_⟩⟩
   have n3p:l3≠p:=g2'.2.ne hl3
   have n3f:l3≠lf:=(xZ (g2'.1 lf _ npf h3f) hl3).symm
   have g3':=g2'.new (o:=HO.lst (List.map V.int bz++[V.int one,V.int ((one + 1 + x) % w)])) hl3
   have h3b':(upd H8 l3 (HO.lst (List.map V.int bz++[V.int one,V.int ((one + 1 + x) % w)]))) l3=some (.lst (List.map V.int (bz++[one,(one + 1 + x) % w]))):=by rw [xW,zK];rfl
   generalize upd H8 l3 (HO.lst (List.map V.int bz++[V.int one,V.int ((one + 1 + x) % w)]))=H9 at g3' h3b' ⊢
   refine (zr rfl ⟨p,zr rfl ⟨by decide,by decide,g3'.2,λd4 H10 d40 d41 g10=>(zr2 rfl rfl ⟨⟨by decide,by decide⟩,zr2 rfl rfl ?_⟩)⟩⟩)
   refine (zr rfl ⟨p,zr rfl ⟨by decide,by decide,g10.2,λd5 H11 d50 d51 g11=>⟨rfl,zr rfl (iteN (fun σ H12=>∃ mm:Int,σ=[some (.ref p),some (.int w),some (.int n),some (.ref lf),some (.int (wh + gp)),some (.ref l3),some (.int (0 + (i:Int))),some (.int one),some (.int ((one + 1 + x) % w)),some (.int gp),some (.int mm),none]/\1<=mm/\mm<=99/\Go p H9 H12) ?_ (λc5 k0=>(zr rfl ⟨p,zr rfl ⟨by decide,by decide,g11.2,λd6 H12 d60 d61 g12=>(zr2 rfl rfl (k0 _ _ (zr rfl ⟨by omega,by omega,(g10.trans g11).trans g12⟩)))⟩⟩)) (λc5=>(zr rfl ⟨by omega,by omega,g10.trans g11⟩)))⟩⟩⟩)
   rintro σ H12 ⟨mm,rfl,mm0,mm1,g12⟩
   have gall:=g3'.trans g12
   have hz:=gall.1 lf _ npf h3f
   refine (zr rfl ⟨.inl ⟨rfl,_,SqL.of hz⟩,zr rfl (zr rfl (zr rfl (zr1 rfl (zr rfl (zr rfl (zr1 rfl (zr rfl ⟨by show 4<=sizeLine;omega,λt ht=>⟨lf,zr2 rfl rfl ⟨(by rw [xb (xZ hz ht)];exact hz),(by rw [zA];omega),?_⟩⟩⟩)))))))⟩)
   exact PvM.step npf hlf F lenf (bs':=bz++[one,(one + 1 + x) % w]) (by simp only [zE,zW,yH];omega) wh1 wh2 hz (g12.1 l3 _ n3p h3b') n3f n3p (λa ha=>gall.tups go.2 _ _ (h3r a ha)) (go.trans gall) ht gp0 gp1 o0 o1 ot.1 ot.2.1 ot.2.2 mm0 mm1 hg (λz hz1 hz2=>zx _ (hb0 z hz1 hz2)) (by simp) (by simp)
  ·rintro σ H3 ⟨v6,v7,v8,v9,v10,wh,lb,bs,fs,rfl,h3f,h3b,nbf,nbp,h3r,F,lenf,lenb,wh1,wh2,go⟩
   have c9:CPow 10 9:=⟨by decide,by decide,by decide⟩
   have e9:(10:Int) ^ Int.toNat 9=1000000000:=by decide
   refine (zr rfl ⟨p,zr rfl ⟨by decide,by decide,go.2,λd8 H4 _ _ g4=>⟨rfl,zr rfl (iteA (fun σ H5=>∃ late:Int,(∃ v6 v7 v8 v9 v10,σ=[some (.ref p),some (.int w),some (.int n),some (.ref lf),some (.int wh),some (.ref lb),v6,v7,v8,v9,v10,some (.int late)])/\Go p H3 H5/\0<=late/\(fs≠[]->wh + late<=1000000000)) ?_ (λc k0=>?_) (λc=>⟨0,⟨_,_,_,_,_,rfl⟩,g4,zq _,λ_=>by omega⟩))⟩⟩⟩)
   rotate_left
   ·have h4f:=g4.1 lf _ npf h3f
    refine (zr rfl ⟨zc _,λl4 hl4=>⟨lf,l4,zr rfl ⟨rfl,SqL.of (by rw [xb (xZ h4f hl4)];exact h4f),SqL.of xW,zr rfl (iteB (λc2=>?_) (λc2=>?_))⟩⟩⟩)
    ·exact (zr2 rfl rfl ⟨c9,zr rfl (zr2 rfl rfl (k0 _ _ ⟨_,⟨_,_,_,_,_,rfl⟩,g4.new hl4,by rw [e9];omega,λ_=>by rw [e9];omega⟩))⟩)
    ·exact k0 _ _ ⟨0,⟨_,_,_,_,_,rfl⟩,g4.new hl4,zq _,λ_=>by omega⟩
   rintro σ Hz ⟨late,⟨v6',v7',v8',v9',v10',rfl⟩,gz,L0,L1⟩
   have hz:=gz.1 lf _ npf h3f
   refine (zr rfl ⟨lf,fs.map (λa=>(a.1,a.2.row)),rfl,?_,(by rw [zA];omega),(λa ha=>?_),λD qs hD pq sq=>?_⟩)
   ·rw [yA];exact SqL.of hz
   ·obtain ⟨b,hb,rfl⟩:=zQ.mp ha
    exact ⟨gz.tups go.2 _ _ (h3r b hb),by intro z;cases z⟩
   obtain ⟨rs,prs,srs,rfl⟩:=rows_back pq sq
   refine ⟨D,rfl,⟨_,SqL.of xW⟩,?_⟩
   have lrs:rs.length=n:=by rw [prs.length_eq,lenf]
   have hDl:(upd Hz D (HO.lst (List.map (λa=>V.ref a.1) (List.map (λa:Addr×M4=>(a.1,a.2.row)) rs)))) D=some (.lst (rs.map λa=>V.ref a.1)):=by rw [xW,yA];rfl
   have rD:=λa (ha:a∈rs)=>(Tups.new (o:=HO.lst (List.map (λa=>V.ref a.1) (List.map (λa:Addr×M4=>(a.1,a.2.row)) rs))) hD) _ _ (gz.tups go.2 _ _ (h3r a (prs.mem_iff.mp ha)))
   have gD:=(go.trans gz).new (o:=HO.lst (List.map (λa=>V.ref a.1) (List.map (λa:Addr×M4=>(a.1,a.2.row)) rs))) hD
   refine comp_list (K:=K) (a:=D) (xs:=rs.map λa=>V.ref a.1) (λi τ acc H5=>∃ ps:List (Addr×M4),(∃ t0 t1 t2 t3,τ=[t0,t1,t2,t3,some (.int late)])/\acc=(ps.map λa=>V.ref a.1)/\(ps.map (·.2))=((rs.take i).map λa=>a.2.late late)/\RowsAt H5 ps/\Same (upd Hz D (HO.lst (List.map (λa=>V.ref a.1) (List.map (λa:Addr×M4=>(a.1,a.2.row)) rs)))) H5)
    ?_ (by rw [zA];omega) ?_ ?_ ?_
   ·exact ⟨[],⟨_,_,_,_,rfl⟩,rfl,rfl,(λ_ z=>nomatch z),Same.refl _⟩
   ·rintro i τ acc H6 ⟨ps,⟨t0,t1,t2,t3,rfl⟩,rfl,eps,rws,sm⟩
    have:=congrArg List.length eps
    rw [zA,zA,zX] at this
    exact ⟨by rw [zA];omega,sm.seq (SqL.of hDl)⟩
   ·rintro i x τ acc H5 C hx ⟨ps,⟨t0,t1,t2,t3,rfl⟩,rfl,eps,rws,sm⟩ hC
    obtain ⟨r,hr,rfl⟩:=wL hx
    have hrow:=sm _ _ (rD r (zC hr))
    refine (un4 hrow (zr rfl (zr rfl (zr rfl (zr rfl (zr2 rfl rfl (zr rfl ⟨by show 4<=sizeLine;omega,λt ht=>hC _ _ _ ?_⟩)))))))
    refine ⟨ps++[(t,r.2.late late)],⟨_,_,_,_,rfl⟩,by rw [zK];rfl,by rw [zK,take_snoc hr,zK,eps];rfl,λa ha=>?_,sm.trans (xa ht)⟩
    rcases zT.mp ha with h | h
    ·exact xa ht _ _ (rws a h)
    ·cases zF.mp h
     exact xW
   ·rintro τ acc H6 ⟨ps,⟨t0,t1,t2,t3,rfl⟩,rfl,eps,rws,sm⟩ lt hlt
    refine ⟨lt,zr rfl (.inl ⟨SqL.of xW,λt ht=>q t ps _ (((gD.same sm).new hlt).new ht) xW ((rws.tups (Tups.new hlt)).tups (Tups.new ht)) ?_ ?_⟩)⟩
    ·rw [eps,zA,zu]
     exact F.good (by omega) L0 L1 prs srs
    ·have:=congrArg List.length eps
     rw [zA,zA,zA,zu] at this
     omega
theorem FR:FnScope ["_law_purse_here", "_law_most_walkers", "_law_most_meetings", "_law_walkers", "_law_most"] ["_law_purse_here", "_law_most_walkers", "_law_most_meetings"] (defScope EH):=⟨rfl,rfl,rfl,by decide +kernel,rfl,by decide +kernel,by decide +kernel⟩
theorem IQ (T:Tx K mg a t_LAST_TIME t_MOST_WALKERS t_MOST_ROOM t_MOST_MEETINGS t_MOST_MANY) (B:BmAt mg base):FnOk P w K mg base CX0 4 a.Bv a.Cp ["_law_purse_here", "_law_most_walkers", "_law_most_meetings"] (spBook):=by
 have Ab:=@wP P w _ _ base _ _ _ _ _ _ T B
 have Ji:=@HX P w _ _ base _ _ _ _ _ _ T B
 have Hd:=@Gd P w _ _ base _ _ _ _ _ _ T B
 refine T.BZ.ok FR (λvs H Q E h=>?_) (λcdv A outer s H vs Q E hr h=>?_)
 ·obtain ⟨p,a,n,rfl,_⟩:=h;rfl
 ·have nd:=FR.nd
  have hu:=hr.units
  obtain ⟨p,aw,n,rfl,a1,a2,hn,hp,q⟩:=h
  refine ⟨_,(@xg _ _ _ (@xj _ _ _ _ _ _ (xk (i:=3) nd rfl (by first | exact Or.inl rfl | exact Or.inr rfl) (@xm _ _ _ _ _ _ _ _ wG xY (xh Ab (hr.mono (by decide)) rfl T.Ac T.Ae T.Af .nil pass0 (@xV _ _ _ (@xX _ _ _ _ _ (pv 0) (@xX _ _ _ _ _ (pv 1) xi rfl) rfl))))) (@xj _ _ _ _ _ _ (xk (i:=4) nd rfl (by first | exact Or.inl rfl | exact Or.inr rfl) (xp (call_min2 rfl) (by rfl) T.b_min yi (@xV _ _ _ (@xX _ _ _ _ _ (pv 2) (@xX _ _ _ _ _ (xh Ab (hr.mono (by decide)) rfl T.Ac T.Ae T.Af .nil pass0 (@xV _ _ _ (@xX _ _ _ _ _ (pv 0) (@xX _ _ _ _ _ (@xm _ _ _ _ _ _ _ _ wG (pv 2) xY) xi rfl) rfl))) xi rfl) rfl)))) (@xj _ _ _ _ _ _ (@wA _ _ _ _ _ _ _ _ (@xq _ _ _ _ _ _ _ _ wt (pv 3) xY (nomark _)) (@xg _ _ _ (@xu _ _ _ (xk (i:=4) nd rfl (by first | exact Or.inl rfl | exact Or.inr rfl) xY))) xv) (@xu _ _ _ (@xl _ _ _ _ (@wO _ _ _ _ _ (@xV _ _ _ (@xX _ _ _ _ _ (xh Ji (hr.mono (by decide)) rfl T.IT T.IW T.I0 .nil pass0 (@xV _ _ _ (@xX _ _ _ _ _ (pv 0) (@xX _ _ _ _ _ (pv 3) xi rfl) rfl))) (@xX _ _ _ _ _ (xh Hd (hr.mono (by decide)) rfl T.G0 T.G3 T.G6 .nil pass0 (@xV _ _ _ (@xX _ _ _ _ _ (pv 0) (@xX _ _ _ _ _ (pv 3) (@xX _ _ _ _ _ (pv 4) xi rfl) rfl) rfl))) xi rfl) rfl))))))))),?_⟩
  have line:1001<=sizeLine:=by rw [sizeLine_eq];decide
  have e200:(2:Int) ^ 200 > 1000:=by decide
  refine (zr rfl (zr rfl ⟨p,aw,rfl,by omega,by omega,hp,λd H1 d0 d1 g1=>(zr2 rfl rfl ?_)⟩))
  obtain ⟨k,rfl⟩:=zk d0
  refine (zr rfl (zr rfl (zr rfl (zr2 rfl rfl ⟨p,zr rfl ⟨by omega,by omega,g1.2,λe H2 e0 e1 g2=>(zr1 rfl ?_)⟩⟩))))
  obtain ⟨m,em,hm⟩:∃ m:Nat,(if e < (n:Int) then e else (n:Int))=m/\m<=n:=by
   refine ⟨(if e < (n:Int) then e else (n:Int)).toNat,?_,?_⟩ <;> split <;> omega
  refine ⟨_,rfl,rfl,_,rfl,iteN (fun σ H3=>∃ m:Nat,σ=[some (.ref p),some (.int aw),some (.int n),some (.int (1 + (k:Int))),some (.int m)]/\m<=n/\(m=0\/1<=k)/\Go p H H3) ?_ (λc k0=>k0 _ _ ⟨0,rfl,zc _,.inl rfl,g1.trans g2⟩) (λc=>⟨m,by rw [<-em];rfl,hm,.inr (by
    by_cases hk:k=0
    ·subst hk;exact absurd c (by simp)
    ·omega),g1.trans g2⟩)⟩
  rintro σ H2 ⟨m,rfl,hm,hk,g2⟩
  refine (zr rfl (zr rfl ⟨p,1 + k,by simp,by omega,g2.2,λtr rooms H3 g3 h3 l3 r3=>(zr rfl (zr rfl (zr rfl ⟨p,_,m,rfl,by omega,by omega,by omega,g3.2,λtm ps H4 g4 h4 r4 gd l4=>⟨by show 2<=sizeLine;omega,λb hb=>?_⟩⟩)))⟩))
  have h3':=g4.tups g3.2 _ _ h3
  have tn:=Tups.new (o:=HO.tup [V.ref tr,V.ref tm]) hb
  refine q b rooms tr tm ps _ ((g2.trans (g3.trans g4)).new hb) ⟨xW,tn _ _ h3',tn _ _ h4,r4.tups tn⟩ (by omega) (by omega) r3 ?_ (by omega)
  rw [l3]
  simpa using gd
theorem FO:FnScope ["_law_purse_here", "_law_book_here", "_law_later", "_law_way", "_law_at"] ["_law_purse_here", "_law_book_here", "_law_later"] (defScope EE):=⟨rfl,rfl,rfl,by decide +kernel,rfl,by decide +kernel,by decide +kernel⟩
theorem IN (T:Tx K mg a t_LAST_TIME t_MOST_WALKERS t_MOST_ROOM t_MOST_MEETINGS t_MOST_MANY) (B:BmAt mg base):FnOk P w K mg base CX0 3 a.Bs a.Cm ["_law_purse_here", "_law_book_here", "_law_later"] (spTimeOf):=by
 have Ab:=@wP P w _ _ base _ _ _ _ _ _ T B
 have KB:=@Jp P w _ _ base _ _ _ _ _ _ T B
 refine T.BW.ok FO (λvs H Q E h=>?_) (λcdv A outer s H vs Q E hr h=>?_)
 ·obtain ⟨p,b,j,_,_,_,_,rfl,_⟩:=h;rfl
 ·have nd:=FO.nd
  have hu:=hr.units
  obtain ⟨p,b,j,rooms,tr,tm,ps,rfl,hj,hb,gd,hp,q⟩:=h
  refine ⟨_,(@xg _ _ _ (@xj _ _ _ _ _ _ (xk (i:=3) nd rfl (by first | exact Or.inl rfl | exact Or.inr rfl) (xh Ab (hr.mono (by decide)) rfl T.Ac T.Ae T.Af .nil pass0 (@xV _ _ _ (@xX _ _ _ _ _ (pv 0) (@xX _ _ _ _ _ xY xi rfl) rfl)))) (@xj _ _ _ _ _ _ (@wA _ _ _ _ _ _ _ _ (@xq _ _ _ _ _ _ _ _ wt (pv 3) xY (nomark _)) (@xg _ _ _ (@xu _ _ _ (@xl _ _ _ _ (@xw _ _ _ _ _ _ _ (xx rfl) (@wC _ _ _ _ (@xV _ _ _ (@xX _ _ _ _ _ xY (@xX _ _ _ _ _ (@xm _ _ _ _ _ _ _ _ op_pow xY xY) xi rfl) rfl))) (pv 2) (λ_ _=>rfl))))) xv) (@xj _ _ _ _ _ _ (@wA _ _ _ _ _ _ _ _ (@xq _ _ _ _ _ _ _ _ wt (pv 3) xY (nomark _)) (@xg _ _ _ (@xu _ _ _ (@xl _ _ _ _ (xh KB (hr.mono (by decide)) rfl T.J7 T.Kd T.Kj .nil pass0 (@xV _ _ _ (@xX _ _ _ _ _ (pv 0) xi rfl)))))) xv) (@xj _ _ _ _ _ _ (@wA _ _ _ _ _ _ _ _ (@xq _ _ _ _ _ _ _ _ (op_eqUnit hu) (@xw _ _ _ _ _ _ _ (xy rfl) (pv 1) xY (λ_ _=>rfl)) (@wO _ _ _ _ _ wK) (nomark _)) (@xg _ _ _ (@xu _ _ _ (@xl _ _ _ _ (xh Ab (hr.mono (by decide)) rfl T.Ac T.Ae T.Af .nil pass0 (@xV _ _ _ (@xX _ _ _ _ _ (pv 0) (@xX _ _ _ _ _ xY xi rfl) rfl)))))) xv) (@xj _ _ _ _ _ _ (xk (i:=4) nd rfl (by first | exact Or.inl rfl | exact Or.inr rfl) (xh Ab (hr.mono (by decide)) rfl T.Ac T.Ae T.Af .nil pass0 (@xV _ _ _ (@xX _ _ _ _ _ (pv 0) (@xX _ _ _ _ _ (xp (xo rfl) (by rfl) T.b_len PySem.boot_len (@xV _ _ _ (@xX _ _ _ _ _ (@xw _ _ _ _ _ _ _ (xy rfl) (pv 1) xY (λ_ _=>rfl)) xi rfl))) xi rfl) rfl)))) (@xj _ _ _ _ _ _ (@wA _ _ _ _ _ _ _ _ (@xq _ _ _ _ _ _ _ _ op_gt (pv 3) xY (nomark _)) (@xg _ _ _ (@xu _ _ _ (xk (i:=4) nd rfl (by first | exact Or.inl rfl | exact Or.inr rfl) (@xw _ _ _ _ _ _ _ (xx rfl) (@wC _ _ _ _ (@xV _ _ _ (@xX _ _ _ _ _ (@xm _ _ _ _ _ _ _ _ wu (pv 4) xY) (@xX _ _ _ _ _ (@xm _ _ _ _ _ _ _ _ wu (@xm _ _ _ _ _ _ _ _ wG (pv 4) (xp (xo rfl) (by rfl) T.b_len PySem.boot_len (@xV _ _ _ (@xX _ _ _ _ _ (@xw _ _ _ _ _ _ _ (xy rfl) (pv 1) xY (λ_ _=>rfl)) xi rfl)))) xY) xi rfl) rfl))) (pv 2) (λ_ _=>rfl))))) xv) (@xu _ _ _ (@xl _ _ _ _ (@xm _ _ _ _ _ _ _ _ op_sub (@xw _ _ _ _ _ _ _ (xy rfl) (@xw _ _ _ _ _ _ _ (xy rfl) (@xw _ _ _ _ _ _ _ (xy rfl) (pv 1) xY (λ_ _=>rfl)) (pv 4) (λ_ _=>rfl)) xY (λ_ _=>rfl)) (@xw _ _ _ _ _ _ _ (xx rfl) (@wC _ _ _ _ (@xV _ _ _ (@xX _ _ _ _ _ xY (@xX _ _ _ _ _ xY xi rfl) rfl))) (@xm _ _ _ _ _ _ _ _ op_xor (@xm _ _ _ _ _ _ _ _ wu (xh Ab (hr.mono (by decide)) rfl T.Ac T.Ae T.Af .nil pass0 (@xV _ _ _ (@xX _ _ _ _ _ (pv 0) (@xX _ _ _ _ _ xY xi rfl) rfl))) xY) (pv 2)) (λ_ _=>rfl)))))))))))),?_⟩
  have line:=line9
  have e200:(2:Int) ^ 200 > 10000:=by decide
  have c9:CPow 10 9:=⟨by decide,by decide,by decide⟩
  have e9:(10:Int) ^ Int.toNat 9=1000000000:=by decide
  have l60:=gd.len
  refine (zr rfl ⟨p,zr rfl ⟨by decide,by decide,hp,λway H1 w0 w1 g1=>?_⟩⟩)
  refine (zr rfl ⟨rfl,zr rfl (iteD (λc=>?_) (λc=>(zr rfl ⟨rfl,zr rfl (iteD (λc=>?_) (λc=>?_))⟩)))⟩)
  ·refine (zr2 rfl rfl ⟨c9,by show 2<=sizeLine;omega,λl hl=>(zr rfl ?_)⟩)
   rcases hj with rfl | rfl
   ·exact (ixl xW rfl (q _ _ (by omega) (by omega) (g1.new hl)))
   ·exact (ixl xW rfl (q _ _ (by rw [e9];decide) (by rw [e9];decide) (g1.new hl)))
  ·exact (zr rfl ⟨p,rfl,g1.2,λd H2 d0 d1 g2=>q _ _ d0 d1 (g1.trans g2)⟩)
  have hb1:=hb.tups (g1.tups hp)
  refine (zr rfl (ixt hb1.book rfl ⟨zc _,λu hu2=>?_⟩))
  have hb2:=hb1.tups (Tups.new (o:=HO.tup []) hu2)
  have g2:=g1.new (o:=HO.tup []) hu2
  refine ⟨tm,u,zr rfl ⟨rfl,SqT.of hb2.meets,SqT.of xW,zr rfl (iteB (λc2=>?_) (λc2=>?_))⟩⟩
  ·exact (zr rfl ⟨p,zr rfl ⟨by decide,by decide,g2.2,λd H3 d0 d1 g3=>q _ _ d0 (by omega) (g2.trans g3)⟩⟩)
  have lps:1<=ps.length:=by
   cases ps with
   | nil=>cases c2
   | cons _ _=>simp
  refine (zr rfl (zr rfl (ixt hb2.book rfl ⟨tm,zr rfl ⟨.inr (SqT.of hb2.meets),p,zr rfl ⟨by rw [zA];omega,by rw [zA];omega,g2.2,λd H3 d0 d1 g3=>?_⟩⟩⟩)))
  rw [zA] at d1
  have hb3:=hb2.tups (g3.tups g2.2)
  have gg3:=g2.trans g3
  refine (zr rfl (zr2 rfl rfl (zr rfl (iteD (λc3=>?_) (λc3=>?_)))))
  ·refine (zr rfl (zr2 rfl rfl ⟨⟨by decide,by decide⟩,zr rfl (zr rfl (ixt hb3.book rfl ⟨tm,zr rfl ⟨.inr (SqT.of hb3.meets),zr2 rfl rfl (zr2 rfl rfl ⟨⟨by decide,by decide⟩,by show 2<=sizeLine;omega,λl hl=>(zr rfl ?_)⟩)⟩⟩))⟩))
   have gx:=gg3.new (o:=HO.lst [V.int (d / 2),V.int ((d + ((ps.map λa=>V.ref a.1).length:Int)) / 2)]) hl
   have hx:=hb3.tups (Tups.new (o:=HO.lst [V.int (d / 2),V.int ((d + ((ps.map λa=>V.ref a.1).length:Int)) / 2)]) hl)
   obtain ⟨k,ek,hk⟩:∃ k:Nat,atI [V.int (d / 2),V.int ((d + ((ps.map λa=>V.ref a.1).length:Int)) / 2)] j=some (V.int (k:Int))/\k < ps.length:=by
    rcases hj with rfl | rfl
    ·obtain ⟨k,hk⟩:=zk (show 0<=d / 2 by omega)
     exact ⟨k,by rw [<-hk];rfl,by omega⟩
    ·obtain ⟨k,hk⟩:=zk (show 0<=(d + ((ps.map λa=>V.ref a.1).length:Int)) / 2 by omega)
     refine ⟨k,by rw [<-hk];rfl,?_⟩
     rw [zA] at hk
     omega
   refine (ixl xW ek ?_)
   refine (zr rfl (ixt hx.book rfl (zr rfl (ixt hx.meets (wF (v:=V.ref ps[k].1) (by simp [hk])) (ixt (hx.rows _ (zj hk)) rfl ⟨by show 2<=sizeLine;omega,λl9 hl9=>?_⟩)))))
   have g9:=gx.new (o:=HO.lst [V.int 1,V.int 0]) hl9
   refine (zr rfl ⟨p,zr rfl ⟨by decide,by decide,g9.2,λe H9 e0 e1 g10=>(zr2 rfl rfl ⟨⟨by decide,by decide⟩,zr rfl (zr2 rfl rfl ?_)⟩)⟩⟩)
   have h9:=g10.1 l9 _ (gx.2.ne hl9) xW
   have tb:=gd.at (zj hk)
   have bx:(e / 3=0\/e / 3=1):=by omega
   rcases hj with rfl | rfl <;> rcases bx with bx | bx <;> rw [bx]
   ·exact (ixl h9 (by decide:atI [V.int 1,V.int 0] (Builtin.bitXor 0 0)=some (V.int 1)) (zr2 rfl rfl (q _ _ (by omega) (by omega) (g9.trans g10))))
   ·exact (ixl h9 (by decide:atI [V.int 1,V.int 0] (Builtin.bitXor 1 0)=some (V.int 0)) (zr2 rfl rfl (q _ _ (by omega) (by omega) (g9.trans g10))))
   ·exact (ixl h9 (by decide:atI [V.int 1,V.int 0] (Builtin.bitXor 0 1)=some (V.int 0)) (zr2 rfl rfl (q _ _ (by omega) (by omega) (g9.trans g10))))
   ·exact (ixl h9 (by decide:atI [V.int 1,V.int 0] (Builtin.bitXor 1 1)=some (V.int 1)) (zr2 rfl rfl (q _ _ (by omega) (by omega) (g9.trans g10))))
  ·have gx:=gg3
   have hx:=hb3
   obtain ⟨k,rfl⟩:=zk d0
   have hk:k < ps.length:=by omega
   refine (zr rfl (ixt hx.book rfl (zr rfl (ixt hx.meets (wF (v:=V.ref ps[k].1) (by simp [hk])) (ixt (hx.rows _ (zj hk)) rfl ⟨by show 2<=sizeLine;omega,λl9 hl9=>?_⟩)))))
   have g9:=gx.new (o:=HO.lst [V.int 1,V.int 0]) hl9
   refine (zr rfl ⟨p,zr rfl ⟨by decide,by decide,g9.2,λe H9 e0 e1 g10=>(zr2 rfl rfl ⟨⟨by decide,by decide⟩,zr rfl (zr2 rfl rfl ?_)⟩)⟩⟩)
   have h9:=g10.1 l9 _ (gx.2.ne hl9) xW
   have tb:=gd.at (zj hk)
   have bx:(e / 3=0\/e / 3=1):=by omega
   rcases hj with rfl | rfl <;> rcases bx with bx | bx <;> rw [bx]
   ·exact (ixl h9 (by decide:atI [V.int 1,V.int 0] (Builtin.bitXor 0 0)=some (V.int 1)) (zr2 rfl rfl (q _ _ (by omega) (by omega) (g9.trans g10))))
   ·exact (ixl h9 (by decide:atI [V.int 1,V.int 0] (Builtin.bitXor 1 0)=some (V.int 0)) (zr2 rfl rfl (q _ _ (by omega) (by omega) (g9.trans g10))))
   ·exact (ixl h9 (by decide:atI [V.int 1,V.int 0] (Builtin.bitXor 0 1)=some (V.int 0)) (zr2 rfl rfl (q _ _ (by omega) (by omega) (g9.trans g10))))
   ·exact (ixl h9 (by decide:atI [V.int 1,V.int 0] (Builtin.bitXor 1 1)=some (V.int 1)) (zr2 rfl rfl (q _ _ (by omega) (by omega) (g9.trans g10))))
theorem Ey:FnScope ["_law_purse_here", "_law_book_here", "_law_walkers", "_law_sender", "_law_wish", "_law_since"] ["_law_purse_here", "_law_book_here"] (defScope DG):=⟨rfl,rfl,rfl,by decide +kernel,rfl,by decide +kernel,by decide +kernel⟩
theorem Ho (T:Tx K mg a t_LAST_TIME t_MOST_WALKERS t_MOST_ROOM t_MOST_MEETINGS t_MOST_MANY) (B:BmAt mg base):FnOk P w K mg base CX0 4 a.AQ a.BB ["_law_purse_here", "_law_book_here"] (spLetter):=by
 have Ab:=@wP P w _ _ base _ _ _ _ _ _ T B
 have GV:=@IN P w _ _ base _ _ _ _ _ _ T B
 refine T.Be.ok Ey (λvs H Q E h=>?_) (λcdv A outer s H vs Q E hr h=>?_)
 ·obtain ⟨p,b,_,_,_,_,rfl,_⟩:=h;rfl
 ·have nd:=Ey.nd
  have hu:=hr.units
  obtain ⟨p,b,rooms,tr,tm,ps,rfl,hb,r1,r2,gd,hp,q⟩:=h
  refine ⟨_,(@xg _ _ _ (@xj _ _ _ _ _ _ (xk (i:=2) nd rfl (by first | exact Or.inl rfl | exact Or.inr rfl) (xp (xo rfl) (by rfl) T.b_len PySem.boot_len (@xV _ _ _ (@xX _ _ _ _ _ (@xw _ _ _ _ _ _ _ (xy rfl) (pv 1) xY (λ_ _=>rfl)) xi rfl)))) (@xj _ _ _ _ _ _ (xk (i:=3) nd rfl (by first | exact Or.inl rfl | exact Or.inr rfl) (xh Ab (hr.mono (by decide)) rfl T.Ac T.Ae T.Af .nil pass0 (@xV _ _ _ (@xX _ _ _ _ _ (pv 0) (@xX _ _ _ _ _ (pv 2) xi rfl) rfl)))) (@xj _ _ _ _ _ _ (xk (i:=4) nd rfl (by first | exact Or.inl rfl | exact Or.inr rfl) (xh Ab (hr.mono (by decide)) rfl T.Ac T.Ae T.Af .nil pass0 (@xV _ _ _ (@xX _ _ _ _ _ (pv 0) (@xX _ _ _ _ _ (pv 2) xi rfl) rfl)))) (@xj _ _ _ _ _ _ (@wA _ _ _ _ _ _ _ _ (@PW.pt _ _ _ (@pw_and _ _ _ _ _ _ _ (@xq _ _ _ _ _ _ _ _ wt (pv 3) (pv 4) (nomark _)) (@pw_and1 _ _ _ _ (@xq _ _ _ _ _ _ _ _ op_gt (xh Ab (hr.mono (by decide)) rfl T.Ac T.Ae T.Af .nil pass0 (@xV _ _ _ (@xX _ _ _ _ _ (pv 0) (@xX _ _ _ _ _ xY xi rfl) rfl))) xY (nomark _))))) (@xg _ _ _ (@xu _ _ _ (xk (i:=4) nd rfl (by first | exact Or.inl rfl | exact Or.inr rfl) (@xm _ _ _ _ _ _ _ _ op_mod (@xm _ _ _ _ _ _ _ _ wG (pv 4) xY) (pv 2))))) xv) (@xj _ _ _ _ _ _ (xk (i:=5) nd rfl (by first | exact Or.inl rfl | exact Or.inr rfl) (xh GV (hr.mono (by decide)) rfl T.GN T.GQ T.GT .nil pass0 (@xV _ _ _ (@xX _ _ _ _ _ (pv 0) (@xX _ _ _ _ _ (pv 1) (@xX _ _ _ _ _ xY xi rfl) rfl) rfl)))) (@xu _ _ _ (@xl _ _ _ _ (@wO _ _ _ _ _ (@xV _ _ _ (@xX _ _ _ _ _ (pv 3) (@xX _ _ _ _ _ (pv 5) (@xX _ _ _ _ _ (pv 4) (@xX _ _ _ _ _ (xh GV (hr.mono (by decide)) rfl T.GN T.GQ T.GT .nil pass0 (@xV _ _ _ (@xX _ _ _ _ _ (pv 0) (@xX _ _ _ _ _ (pv 1) (@xX _ _ _ _ _ xY xi rfl) rfl) rfl))) xi rfl) rfl) rfl) rfl))))))))))),?_⟩
  have line:=line9
  have e200:(2:Int) ^ 200 > 10000:=by decide
  have rl:(rooms.map V.int).length=rooms.length:=zA _
  have fin:∀ s w:Int,0<=s->s < rooms.length->0<=w->w < rooms.length->∀ H3,Go p H H3->spTimeOf [.ref p,.ref b,.int 0] H3 (λx H4=>spTimeOf [.ref p,.ref b,.int 1] H4 (λy H5=>4<=sizeLine/\∀ t,H5 t=none->Q (.ref t) (upd H5 t (.tup [.int s,x,.int w,y]))) E0) E0:=by
   intro s w s0 s1 w0 w1 H3 g3
   have hb3:=hb.tups (g3.tups hp)
   refine (ex7 p b 0 rooms tr tm ps ⟨rfl,.inl rfl,hb3,gd,g3.2,λx H4 x0 x1 g4=>?_⟩)
   exact (ex7 p b 1 rooms tr tm ps ⟨rfl,.inr rfl,hb3.tups (g4.tups g3.2),gd,g4.2,λy H5 y0 y1 g5=>⟨by omega,λt ht=>q t s x w y _ ((g3.trans (g4.trans g5)).new ht) xW s0 s1 w0 w1 x0 x1 y0 y1⟩⟩)
  refine (zr rfl (ixt hb.book rfl ⟨tr,zr rfl ⟨.inr (SqT.of hb.rooms),?_⟩⟩))
  refine (zr rfl (zr rfl ⟨p,zr rfl ⟨by omega,by omega,hp,λs H1 s0 s1 g1=>(zr rfl (zr rfl ⟨p,zr rfl ⟨by omega,by omega,g1.2,λw H2 w0 w1 g2=>?_⟩⟩))⟩⟩))
  refine (zr rfl (zr rfl ⟨rfl,zr rfl (iteD (λc=>?_) (λc=>iteB0 rfl ?_))⟩))
  ·refine (zr rfl ⟨p,zr rfl ⟨by decide,by decide,g2.2,λe H3 e0 e1 g3=>(zr2 rfl rfl (zr rfl (iteD (λc2=>?_) (λc2=>?_))))⟩⟩)
   ·refine (zr rfl (zr2 rfl rfl (zr rfl (zr2 rfl rfl ⟨by omega,?_⟩))))
    have:=fin s ((w + 1) % (((rooms.map V.int).length:Nat):Int)) s0 (by omega) (yj _ (by omega)) (by have:=yU (w + 1) (show (0:Int) < ((rooms.map V.int).length:Nat) by omega);omega) H3 (g1.trans (g2.trans g3))
    simp only [gTup,gCons,gNil,tYes,tBM,rAppend,gSub,tAugS,ipI,rU,rIxL,rIxT,rSetL,tSeq,tAsg,tIfS,tRet,tOp,tUn,rI0,rI,tVar,tC,gName,tCall,tCB,tCons,tNil,tAndV,tOrV,tNotV,tNext,tTest,tB,tNot,tAnd,tOr,tDrop,rEq,rNe,scal,tChain,tTup,tLst,tSl,tNoPart,tPart,cxOf,L2.start,zm,yb,zW,yH,xL,xM,List.replicate,yc,yz,zn,yE,yB,Option.some.injEq,exists_eq_left',exists_eq_left,exists_and_left,and_assoc,V.int.injEq,V.ty.injEq,V.str.injEq,V.bl.injEq,V.ref.injEq,List.cons.injEq,and_true,true_and,yV,yW]
    exact this
   ·have:=fin s w s0 (by omega) w0 (by omega) H3 (g1.trans (g2.trans g3))
    simp only [gTup,gCons,gNil,tYes,tBM,rAppend,gSub,tAugS,ipI,rU,rIxL,rIxT,rSetL,tSeq,tAsg,tIfS,tRet,tOp,tUn,rI0,rI,tVar,tC,gName,tCall,tCB,tCons,tNil,tAndV,tOrV,tNotV,tNext,tTest,tB,tNot,tAnd,tOr,tDrop,rEq,rNe,scal,tChain,tTup,tLst,tSl,tNoPart,tPart,cxOf,L2.start,zm,yb,zW,yH,xL,xM,List.replicate,yc,yz,zn,yE,yB,Option.some.injEq,exists_eq_left',exists_eq_left,exists_and_left,and_assoc,V.int.injEq,V.ty.injEq,V.str.injEq,V.bl.injEq,V.ref.injEq,List.cons.injEq,and_true,true_and,yV,yW]
    exact this
  ·have:=fin s w s0 (by omega) w0 (by omega) H2 (g1.trans g2)
   simp only [gTup,gCons,gNil,tYes,tBM,rAppend,gSub,tAugS,ipI,rU,rIxL,rIxT,rSetL,tSeq,tAsg,tIfS,tRet,tOp,tUn,rI0,rI,tVar,tC,gName,tCall,tCB,tCons,tNil,tAndV,tOrV,tNotV,tNext,tTest,tB,tNot,tAnd,tOr,tDrop,rEq,rNe,scal,tChain,tTup,tLst,tSl,tNoPart,tPart,cxOf,L2.start,zm,yb,zW,yH,xL,xM,List.replicate,yc,yz,zn,yE,yB,Option.some.injEq,exists_eq_left',exists_eq_left,exists_and_left,and_assoc,V.int.injEq,V.ty.injEq,V.str.injEq,V.bl.injEq,V.ref.injEq,List.cons.injEq,and_true,true_and,yV,yW]
   exact this
theorem GC:FnScope ["thing"] ["thing"] (defScope Fo):=⟨rfl,rfl,rfl,by decide +kernel,rfl,by decide +kernel,by decide +kernel⟩
theorem Jk (T:Tx K mg a t_LAST_TIME t_MOST_WALKERS t_MOST_ROOM t_MOST_MEETINGS t_MOST_MANY) (B:BmAt mg base):FnOk P w K mg base CX0 1 a.BK a.CJ ["thing"] (spWhole):=by
 refine T.Cb.ok GC (λvs H Q E h=>?_) (λcdv A outer s H vs Q E hr h=>?_)
 ·obtain ⟨x,t,rfl,_⟩:=h;rfl
 ·have nd:=GC.nd
  have hu:=hr.units
  obtain ⟨x,t,rfl,ht,k⟩:=h
  refine ⟨_,(@xg _ _ _ (@xu _ _ _ (@xl _ _ _ _ (@pe_and _ _ _ _ _ _ _ (xp (wb) (by rfl) T.b_isinstance zw (@xV _ _ _ (@xX _ _ _ _ _ (pv 0) (@xX _ _ _ _ _ (pe_bltn (v:=V.ty "int") rfl T.b_int PyProof.Rows.boot_int rfl) xi rfl) rfl))) (@pe_one _ _ _ _ _ (@pe_not _ _ _ _ (xp (wb) (by rfl) T.b_isinstance zw (@xV _ _ _ (@xX _ _ _ _ _ (pv 0) (@xX _ _ _ _ _ (pe_bltn (v:=V.ty "bool") rfl T.b_bool PyProof.Rows.boot_bool rfl) xi rfl) rfl))))))))),?_⟩
  refine (zr rfl ⟨x,t, "int", rfl,ht,.inl rfl,zr rfl ?_⟩)
  rcases tyS_six ht with rfl | rfl | rfl | rfl | rfl | rfl | rfl <;> first | exact iteB0 rfl k | exact iteB1 rfl ⟨_,rfl,x,_, "bool", rfl,ht,.inr (.inl rfl),_,rfl,k⟩
theorem FK:FnScope ["thing", "least", "most"] ["thing", "least", "most"] (defScope EB):=⟨rfl,rfl,rfl,by decide +kernel,rfl,by decide +kernel,by decide +kernel⟩
theorem ww (T:Tx K mg a t_LAST_TIME t_MOST_WALKERS t_MOST_ROOM t_MOST_MEETINGS t_MOST_MANY) (B:BmAt mg base):FnOk P w K mg base CX0 2 a.Bo a.Ci ["thing", "least", "most"] (spWithin):=by
 have Kx:=@Jk P w _ _ base _ _ _ _ _ _ T B
 refine T.BS.ok FK (λvs H Q E h=>?_) (λcdv A outer s H vs Q E hr h=>?_)
 ·obtain ⟨x,t,lo,hi,rfl,_⟩:=h;rfl
 ·have nd:=FK.nd
  have hu:=hr.units
  obtain ⟨x,t,lo,hi,rfl,ht,k⟩:=h
  refine ⟨_,(@xg _ _ _ (@xu _ _ _ (@xl _ _ _ _ (@pe_and _ _ _ _ _ _ _ (xh Kx (hr.mono (by decide)) rfl T.J0 T.J9 T.Kf .nil pass0 (@xV _ _ _ (@xX _ _ _ _ _ (pv 0) xi rfl))) (@pe_one _ _ _ _ _ (pe_chain op_le op_le (pv 1) (pv 0) (pv 2))))))),?_⟩
  refine (zr rfl ⟨x,t,rfl,ht,zr rfl ?_⟩)
  by_cases h:t = "int"
  ·subst h
   obtain ⟨i,rfl⟩:=tyS_int ht
   refine iteB1 rfl (zr rfl (zr rfl (zr2 rfl rfl (zr rfl ?_))))
   have k:Q (.bl (decide (lo<=i) && decide (i<=hi))) H:=k
   by_cases h1:lo<=i
   ·rw [decide_eq_true h1] at k ⊢
    exact iteB1 rfl (zr rfl (zr2 rfl rfl k))
   ·rw [decide_eq_false h1] at k ⊢
    exact iteB0 rfl k
  ·rw [inB_no ht h] at k
   exact iteB0 (by simpa using h) k
theorem Hh:FnScope ["thing"] ["thing"] (defScope F7):=⟨rfl,rfl,rfl,by decide +kernel,rfl,by decide +kernel,by decide +kernel⟩
theorem JW (T:Tx K mg a t_LAST_TIME t_MOST_WALKERS t_MOST_ROOM t_MOST_MEETINGS t_MOST_MANY) (B:BmAt mg base):FnOk P w K mg base CX0 3 a.Cs a.Dp ["thing"] (spTime):=by
 have AD:=@ww P w _ _ base _ _ _ _ _ _ T B
 refine T.CV.ok Hh (λvs H Q E h=>?_) (λcdv A outer s H vs Q E hr h=>?_)
 ·obtain ⟨x,t,rfl,_⟩:=h;rfl
 ·have nd:=Hh.nd
  have hu:=hr.units
  obtain ⟨x,t,rfl,ht,k⟩:=h
  refine ⟨_,(@xg _ _ _ (@xu _ _ _ (@xl _ _ _ _ (xh AD (hr.mono (by decide)) rfl T.Bj T.Bk T.Bl .nil pass0 (@xV _ _ _ (@xX _ _ _ _ _ (pv 0) (@xX _ _ _ _ _ xY (@xX _ _ _ _ _ (pe_glob (v:=V.int 1000000000) rfl T.c_LAST_TIME ⟨_,rfl⟩) xi rfl) rfl) rfl)))))),?_⟩
  exact (zr rfl ⟨x,t,zr1 rfl ⟨ht,k⟩⟩)
theorem GE:FnScope ["number", "bound"] ["number", "bound"] (defScope Fq):=⟨rfl,rfl,rfl,by decide +kernel,rfl,by decide +kernel,by decide +kernel⟩
theorem Jm (T:Tx K mg a t_LAST_TIME t_MOST_WALKERS t_MOST_ROOM t_MOST_MEETINGS t_MOST_MANY) (B:BmAt mg base):FnOk P w K mg base CX0 1 a.BM a.CL ["number", "bound"] (spBelow):=by
 refine T.Cd.ok GE (λvs H Q E h=>?_) (λcdv A outer s H vs Q E hr h=>?_)
 ·obtain ⟨o,t,rfl,_⟩:=h;rfl
 ·have nd:=GE.nd
  have hu:=hr.units
  obtain ⟨o,t,rfl,q⟩:=h
  refine ⟨_,(@xg _ _ _ (@xu _ _ _ (@xl _ _ _ _ (@pe_and _ _ _ _ _ _ _ (pe_cmp (@pc_notN _ _ _ _ _ (pv 0))) (@pe_one _ _ _ _ _ (@wj _ _ _ _ _ _ _ _ op_lt (pv 0) (pv 1) (nomark _))))))),?_⟩
  cases o with
  | none=>exact (zr rfl (zr rfl (iteB0 rfl q)))
  | some y=>exact (zr rfl (zr rfl (iteB1 rfl (zr rfl (zr rfl (zr2 rfl rfl q))))))
theorem Hg:FnScope ["number", "bound"] ["number", "bound"] (defScope F6):=⟨rfl,rfl,rfl,by decide +kernel,rfl,by decide +kernel,by decide +kernel⟩
theorem JV (T:Tx K mg a t_LAST_TIME t_MOST_WALKERS t_MOST_ROOM t_MOST_MEETINGS t_MOST_MANY) (B:BmAt mg base):FnOk P w K mg base CX0 1 a.Cr a.Do ["number", "bound"] (spUpto):=by
 refine T.CU.ok Hg (λvs H Q E h=>?_) (λcdv A outer s H vs Q E hr h=>?_)
 ·obtain ⟨o,t,rfl,_⟩:=h;rfl
 ·have nd:=Hg.nd
  have hu:=hr.units
  obtain ⟨o,t,rfl,q⟩:=h
  refine ⟨_,(@xg _ _ _ (@xu _ _ _ (@xl _ _ _ _ (@pe_and _ _ _ _ _ _ _ (pe_cmp (@pc_notN _ _ _ _ _ (pv 0))) (@pe_one _ _ _ _ _ (@wj _ _ _ _ _ _ _ _ op_le (pv 0) (pv 1) (nomark _))))))),?_⟩
  cases o with
  | none=>exact (zr rfl (zr rfl (iteB0 rfl q)))
  | some y=>exact (zr rfl (zr rfl (iteB1 rfl (zr rfl (zr rfl (zr2 rfl rfl q))))))
theorem FN:FnScope ["thing"] ["thing"] (defScope DE):=⟨rfl,rfl,rfl,by decide +kernel,rfl,by decide +kernel,by decide +kernel⟩
theorem IM (T:Tx K mg a t_LAST_TIME t_MOST_WALKERS t_MOST_ROOM t_MOST_MEETINGS t_MOST_MANY) (B:BmAt mg base):FnOk P w K mg base CX0 3 a.Br a.Cl ["thing"] (spAreRooms):=by
 have AD:=@ww P w _ _ base _ _ _ _ _ _ T B
 refine T.BV.ok FN (λvs H Q E h=>?_) (λcdv A outer s H vs Q E hr h=>?_)
 ·obtain ⟨p,rooms,rfl,_⟩:=h;rfl
 ·have nd:=FN.nd
  have hu:=hr.units
  obtain ⟨p,rooms,rfl,hp,h1,h12,hr9,q⟩:=h
  refine ⟨_,(@xg _ _ _ (@xj _ _ _ _ _ _ (@wA _ _ _ _ _ _ _ _ (@PW.pt _ _ _ (@pw_or _ _ _ _ _ _ _ (@wY _ _ _ _ (wT (xp (wb) (by rfl) T.b_isinstance zw (@xV _ _ _ (@xX _ _ _ _ _ (pv 0) (@xX _ _ _ _ _ (pe_bltn (v:=V.ty "list") rfl T.b_list PyProof.Rows.boot_list rfl) xi rfl) rfl))))) (@pw_or1 _ _ _ _ (@wY _ _ _ _ (pt_chain op_le op_le xY (xp (xo rfl) (by rfl) T.b_len PySem.boot_len (@xV _ _ _ (@xX _ _ _ _ _ (pv 0) xi rfl))) (pe_glob (v:=V.int 12) rfl T.c_MOST_WALKERS ⟨_,rfl⟩)))))) (@xg _ _ _ (@xu _ _ _ (@xl _ _ _ _ pe_bl))) xv) (@xu _ _ _ (@xl _ _ _ _ (xp (call_all rfl rfl) (by rfl) T.b_all PyProof.Rows.boot_all (@xV _ _ _ (@xX _ _ _ _ _ (pe_comp (own:=["room"]) (caps:=[]) rfl (show CompScope ["room"] [] ["thing"] (defScope DE) _ from ⟨rfl,by decide +kernel,by decide +kernel,by decide +kernel,by decide +kernel⟩) (@wN _ _ _ _ _ rfl (pv 0)) (λ_ _ _ _=>(xc (i:=0) (show List.Nodup (["room"]:List Str) from by decide +kernel) rfl (by first | exact Or.inl rfl | exact Or.inr rfl))) (λ_ _ _ _=>pts_nil) (λ_ _ _ _=>(xh AD (hr.mono (by decide)) rfl T.Bj T.Bk T.Bl .nil pass0 (@xV _ _ _ (@xX _ _ _ _ _ (pv 0) (@xX _ _ _ _ _ xY (@xX _ _ _ _ _ (pe_glob (v:=V.int 99) rfl T.c_MOST_ROOM ⟨_,rfl⟩) xi rfl) rfl) rfl))))) xi rfl))))))),?_⟩
  have line:=line9
  refine (zr rfl ⟨_, "list", "list", rfl,tyS_lst hp,.inr (.inr (.inl rfl)),zr rfl (iteB0 rfl ?_)⟩)
  simp only [gTup,gCons,gNil,tYes,tBM,rAppend,gSub,tAugS,ipI,rU,rIxL,rIxT,rSetL,tSeq,tAsg,tIfS,tRet,tOp,tUn,rI0,rI,tVar,tC,gName,tCall,tCB,tCons,tNil,tAndV,tOrV,tNotV,tNext,tTest,tB,tNot,tAnd,tOr,tDrop,rEq,rNe,scal,tChain,tTup,tLst,tSl,tNoPart,tPart,cxOf,L2.start,zm,yb,zW,yH,xL,xM,List.replicate,yc,yz,zn,yE,yB,Option.some.injEq,exists_eq_left',exists_eq_left,exists_and_left,and_assoc,V.int.injEq,V.ty.injEq,V.str.injEq,V.bl.injEq,V.ref.injEq,List.cons.injEq,and_true,true_and,yV,yW]
  refine ⟨_,.inl (SqL.of hp),iteB1 (decide_eq_true (by rw [zA];omega)) (iteB0 (by rw [decide_eq_true (by rw [zA];omega)];rfl) ?_)⟩
  refine (zr rfl ⟨p,rfl,⟨_,SqL.of hp⟩,?_⟩)
  refine comp_list (K:=K) (a:=p) (xs:=rooms.map V.int) (λi τ acc H5=>(∃ t0,τ=[t0])/\acc=(List.replicate i true).map V.bl/\H5=H) ⟨⟨_,rfl⟩,rfl,rfl⟩ (by rw [zA];omega) ?_ ?_ ?_
  ·rintro i τ acc H5 ⟨⟨t0,rfl⟩,rfl,rfl⟩
   exact ⟨by simp,SqL.of hp⟩
  ·rintro i x τ acc H5 C hx ⟨⟨t0,rfl⟩,rfl,rfl⟩ hC
   obtain ⟨r,hr,rfl⟩:=wL hx
   have snoc:(List.replicate i true).map V.bl++[V.bl true]=(List.replicate (i + 1) true).map V.bl:=by
    rw [List.replicate_succ',zK];rfl
   obtain ⟨r0,r1⟩:=hr9 r (zC hr)
   have e:inB 0 99 (.int r)=true:=by simp [inB,r0,r1]
   refine (zr rfl ⟨.int r, "int", 0,99,rfl,rfl,?_⟩)
   rw [e]
   exact hC _ _ _ ⟨⟨_,rfl⟩,snoc,rfl⟩
  ·rintro τ acc H5 ⟨⟨t0,rfl⟩,rfl,rfl⟩ lc hlc
   refine ⟨lc,rfl,_,SqL.of xW,?_⟩
   have:=q _ (xa (o:=HO.lst ((List.replicate (rooms.map V.int).length true).map V.bl)) hlc)
   have a:(List.replicate (rooms.map V.int).length true).all id=true:=by simp
   rw [a]
   exact this
theorem Fh:FnScope ["walkers", "thing", "one", "other", "when", "many"] ["walkers", "thing"] (defScope D4):=⟨rfl,rfl,rfl,by decide +kernel,rfl,by decide +kernel,by decide +kernel⟩
theorem HW (T:Tx K mg a t_LAST_TIME t_MOST_WALKERS t_MOST_ROOM t_MOST_MEETINGS t_MOST_MANY) (B:BmAt mg base):FnOk P w K mg base CX0 3 a.A8 a.B2 ["walkers", "thing"] (spIsMeet):=by
 have AD:=@ww P w _ _ base _ _ _ _ _ _ T B
 refine T.Bx.ok Fh (λvs H Q E h=>?_) (λcdv A outer s H vs Q E hr h=>?_)
 ·obtain ⟨w,t,r,rfl,_⟩:=h;rfl
 ·have nd:=Fh.nd
  have hu:=hr.units
  obtain ⟨w,t,r,rfl,ht,⟨a1,a2,a3,a4,a5,a6,a7,a8,a9⟩,q⟩:=h
  refine ⟨_,(@xg _ _ _ (@xj _ _ _ _ _ _ (@wA _ _ _ _ _ _ _ _ (@PW.pt _ _ _ (@pw_or _ _ _ _ _ _ _ (@wY _ _ _ _ (wT (xp (wb) (by rfl) T.b_isinstance zw (@xV _ _ _ (@xX _ _ _ _ _ (pv 1) (@xX _ _ _ _ _ (pe_bltn (v:=V.ty "tuple") rfl T.b_tuple yO rfl) xi rfl) rfl))))) (@pw_or1 _ _ _ _ (@xq _ _ _ _ _ _ _ _ op_ne (xp (xo rfl) (by rfl) T.b_len PySem.boot_len (@xV _ _ _ (@xX _ _ _ _ _ (pv 1) xi rfl))) xY (nomark _))))) (@xg _ _ _ (@xu _ _ _ (@xl _ _ _ _ pe_bl))) xv) (@xj _ _ _ _ _ _ (wU (pv 1) (wD (n:=4) rfl rfl (xf (xc (i:=2) nd rfl (by first | exact Or.inl rfl | exact Or.inr rfl)) (xf (xc (i:=3) nd rfl (by first | exact Or.inl rfl | exact Or.inr rfl)) (xf (xc (i:=4) nd rfl (by first | exact Or.inl rfl | exact Or.inr rfl)) (xf (xc (i:=5) nd rfl (by first | exact Or.inl rfl | exact Or.inr rfl)) wB)))))) (@xj _ _ _ _ _ _ (@wA _ _ _ _ _ _ _ _ (@PW.pt _ _ _ (@pw_or _ _ _ _ _ _ _ (@wY _ _ _ _ (wT (xh AD (hr.mono (by decide)) rfl T.Bj T.Bk T.Bl .nil pass0 (@xV _ _ _ (@xX _ _ _ _ _ (pv 2) (@xX _ _ _ _ _ xY (@xX _ _ _ _ _ (@xm _ _ _ _ _ _ _ _ op_sub (pv 0) xY) xi rfl) rfl) rfl))))) (@pw_or1 _ _ _ _ (@wY _ _ _ _ (wT (xh AD (hr.mono (by decide)) rfl T.Bj T.Bk T.Bl .nil pass0 (@xV _ _ _ (@xX _ _ _ _ _ (pv 3) (@xX _ _ _ _ _ xY (@xX _ _ _ _ _ (@xm _ _ _ _ _ _ _ _ op_sub (pv 0) xY) xi rfl) rfl) rfl)))))))) (@xg _ _ _ (@xu _ _ _ (@xl _ _ _ _ pe_bl))) xv) (@xu _ _ _ (@xl _ _ _ _ (@pe_and _ _ _ _ _ _ _ (@wj _ _ _ _ _ _ _ _ op_ne (pv 2) (pv 3) (nomark _)) (@pe_and _ _ _ _ _ _ _ (xh AD (hr.mono (by decide)) rfl T.Bj T.Bk T.Bl .nil pass0 (@xV _ _ _ (@xX _ _ _ _ _ (pv 4) (@xX _ _ _ _ _ xY (@xX _ _ _ _ _ (pe_glob (v:=V.int 1000000000) rfl T.c_LAST_TIME ⟨_,rfl⟩) xi rfl) rfl) rfl))) (@pe_one _ _ _ _ _ (xh AD (hr.mono (by decide)) rfl T.Bj T.Bk T.Bl .nil pass0 (@xV _ _ _ (@xX _ _ _ _ _ (pv 5) (@xX _ _ _ _ _ xY (@xX _ _ _ _ _ (pe_glob (v:=V.int 99) rfl T.c_MOST_MANY ⟨_,rfl⟩) xi rfl) rfl) rfl)))))))))))),?_⟩
  have ht':H t=some (.tup [.int r.lo,.int r.hi,.int r.t,.int r.m]):=ht
  have e1:inB 0 (w - 1) (.int r.lo)=true:=by
   have:r.lo<=w - 1:=by omega
   simp [inB,a1,this]
  have e2:inB 0 (w - 1) (.int r.hi)=true:=by
   have:r.hi<=w - 1:=by omega
   simp [inB,a3,this]
  have e3:inB 1 1000000000 (.int r.t)=true:=by simp [inB,a6,a7]
  have e4:inB 1 99 (.int r.m)=true:=by simp [inB,a8,a9]
  refine (zr rfl ⟨_, "tuple", "tuple", rfl,tyS_tup ht',.inr (.inr (.inr rfl)),zr rfl (iteB0 rfl ?_)⟩)
  refine (zr rfl ⟨t,zr rfl ⟨.inr (SqT.of ht'),rfl,zr rfl (iteB0 rfl ?_)⟩⟩)
  refine (zr rfl (un4 ht' ?_))
  refine (zr rfl (zr rfl (zr2 rfl rfl ⟨.int r.lo, "int", zr2 rfl rfl (zr rfl ?_)⟩)))
  rw [e1]
  refine iteB0 rfl (zr rfl (zr rfl (zr2 rfl rfl ⟨.int r.hi, "int", zr2 rfl rfl (zr rfl ?_)⟩)))
  rw [e2]
  refine iteB0 rfl (zr rfl (zr rfl ⟨rfl,zr rfl (iteB1 (by simp [a5]) (zr rfl ⟨.int r.t, "int", zr2 rfl rfl (zr rfl ?_)⟩))⟩))
  rw [e3]
  refine iteB1 rfl (zr rfl ⟨.int r.m, "int", zr2 rfl rfl ?_⟩)
  rw [e4]
  exact q
theorem Cw:FnScope ["meetings", "seen", "one", "other", "when", "many"] ["meetings"] (defScope wZ):=⟨rfl,rfl,rfl,by decide +kernel,rfl,by decide +kernel,by decide +kernel⟩
theorem D9 (T:Tx K mg a t_LAST_TIME t_MOST_WALKERS t_MOST_ROOM t_MOST_MEETINGS t_MOST_MANY) (B:BmAt mg base):FnOk P w K mg base CX0 1 a.Ah a.Ar ["meetings"] (spTwice):=by
 refine T.Ao.ok Cw (λvs H Q E h=>?_) (λcdv A outer s H vs Q E hr h=>?_)
 ·obtain ⟨l,fs,w,rfl,_⟩:=h;rfl
 ·have nd:=Cw.nd
  have hu:=hr.units
  obtain ⟨l,fs,w0,rfl,hL,raw,q⟩:=h
  refine ⟨_,(@xg _ _ _ (@xj _ _ _ _ _ _ (xk (i:=1) nd rfl (by first | exact Or.inl rfl | exact Or.inr rfl) (pe_callTy0 call_setNew (by rfl) T.b_set PyProof.Rows.boot_set)) (@xj _ _ _ _ _ _ (wV PassesOwn.never rfl (@wN _ _ _ _ _ rfl (pv 0)) (wD (n:=4) rfl rfl (xf (xc (i:=2) nd rfl (by first | exact Or.inl rfl | exact Or.inr rfl)) (xf (xc (i:=3) nd rfl (by first | exact Or.inl rfl | exact Or.inr rfl)) (xf (xc (i:=4) nd rfl (by first | exact Or.inl rfl | exact Or.inr rfl)) (xf (xc (i:=5) nd rfl (by first | exact Or.inl rfl | exact Or.inr rfl)) wB))))) (@xg _ _ _ (@xj _ _ _ _ _ _ (@wA _ _ _ _ _ _ _ _ (@PW.pt _ _ _ (@pw_or _ _ _ _ _ _ _ (@xq _ _ _ _ _ _ _ _ (op_inS hu) (@wO _ _ _ _ _ (@xV _ _ _ (@xX _ _ _ _ _ (pv 2) (@xX _ _ _ _ _ (pv 4) xi rfl) rfl))) (pv 1) rfl) (@pw_or1 _ _ _ _ (@xq _ _ _ _ _ _ _ _ (op_inS hu) (@wO _ _ _ _ _ (@xV _ _ _ (@xX _ _ _ _ _ (pv 3) (@xX _ _ _ _ _ (pv 4) xi rfl) rfl))) (pv 1) rfl)))) (@xg _ _ _ (@xu _ _ _ (@xl _ _ _ _ pe_bl))) xv) (@xj _ _ _ _ _ _ (wJ (pe_bmS PySem.F.slot_set_add PySem.F.type_set_add (mt_addS hu) (pv 1) (@xV _ _ _ (@xX _ _ _ _ _ (@wO _ _ _ _ _ (@xV _ _ _ (@xX _ _ _ _ _ (pv 2) (@xX _ _ _ _ _ (pv 4) xi rfl) rfl))) xi rfl)))) (@xu _ _ _ (wJ (pe_bmS PySem.F.slot_set_add PySem.F.type_set_add (mt_addS hu) (pv 1) (@xV _ _ _ (@xX _ _ _ _ _ (@wO _ _ _ _ _ (@xV _ _ _ (@xX _ _ _ _ _ (pv 3) (@xX _ _ _ _ _ (pv 4) xi rfl) rfl))) xi rfl))))))))) (@xu _ _ _ (@xl _ _ _ _ pe_bl))))),?_⟩
  have line:=line9
  have n60:fs.length<=60:=by have:=raw.few;rw [zA] at this;exact this
  refine ⟨rfl,λsp hsp=>?_⟩
  refine (zr rfl ⟨l,rfl,⟨_,(xa hsp).seq (SqL.of hL.1)⟩,?_⟩)
  refine wr (K:=K) (a:=l) (xs:=fs.map λa=>V.ref a.1) (λi σ H5=>∃ xs:List (Addr×List Int),(∃ v2 v3 v4 v5,σ=[some (.ref l),some (.ref sp),v2,v3,v4,v5])/\Same H H5/\H5 sp=some (setO P w sp xs)/\(∀ e∈xs,H5 e.1=some (.tup (e.2.map V.int)))/\xs.length<=2 * i/\∀ e∈xs,∃ j,j < i/\∃ r,fs[j]?=some r/\(e.2=[r.2.lo,r.2.t]\/e.2=[r.2.hi,r.2.t])) ?_ ?_ ?_ ?_
  ·exact ⟨[],⟨_,_,_,_,rfl⟩,xa hsp,xW,(λ_ z=>nomatch z),zc _,λ_ z=>nomatch z⟩
  ·rintro i σ H5 _ ⟨xs,_,sm,_⟩
   exact sm.seq (SqL.of hL.1)
  ·rintro i x σ H5 hx ⟨xs,⟨v2,v3,v4,v5,rfl⟩,sm,hs,hk,few,old⟩
   obtain ⟨r,hr,rfl⟩:=wL hx
   have hi:i < fs.length:=(zB.mp hr).1
   have hrow:H5 r.1=some (.tup [.int r.2.lo,.int r.2.hi,.int r.2.t,.int r.2.m]):=sm _ _ (hL.2 r (zC hr))
   have fresh:∀ k,(k=[r.2.lo,r.2.t]\/k=[r.2.hi,r.2.t])->k ∉ xs.map (·.2):=λk hk2 z=>by
    obtain ⟨e,he,rfl⟩:=zQ.mp z
    obtain ⟨j,hj,r',hr',h⟩:=old e he
    have hj':j < fs.length:=by omega
    have ap:(fs.map (·.2))[j]'(by rw [zA];exact hj')=r'.2/\(fs.map (·.2))[i]'(by rw [zA];exact hi)=r.2:=by
     constructor
     ·have:=(zB.mp hr').2
      rw [List.getElem_map,this]
     ·have:=(zB.mp hr).2
      rw [List.getElem_map,this]
    have pw:=zp.mp raw.pw j i (by rw [zA];exact hj') (by rw [zA];exact hi) hj
    rw [ap.1,ap.2] at pw
    have apt:r'.2.t=r.2.t->apart r'.2 r.2:=pw
    rcases h with h | h <;> rcases hk2 with hk2 | hk2 <;> (rw [h] at hk2;injection hk2 with q1 q2;injection q2 with q2 _;have:=apt q2;unfold apart at this;omega)
   refine (un4 hrow ?_)
   have nsp:∀ {t:Addr} {H9:Hp}{o:HO},H9 sp=some o->H9 t=none->t≠sp:=λa b z=>by rw [z,a] at b;cases b
   refine (zr rfl (zr rfl ⟨by show 2<=sizeLine;omega,λt1 ht1=>(zr rfl ⟨sp,xs,t1,[r.2.lo,r.2.t],rfl,rfl,?_,xW,λe he=>xa ht1 _ _ (hk e he),zr rfl ?_⟩)⟩))
   ·rw [xb (nsp hs ht1).symm];exact hs
   rw [decide_eq_false (fresh _ (.inl rfl))]
   have s1:=xa (o:=HO.tup [V.int r.2.lo,V.int r.2.t]) ht1
   have hs1:=s1 _ _ hs
   have hk1:=λe he=>s1 _ _ (hk e he)
   generalize upd H5 t1 (HO.tup [V.int r.2.lo,V.int r.2.t])=H6 at *
   refine iteB0 rfl (zr rfl (zr rfl ⟨by show 2<=sizeLine;omega,λt2 ht2=>(zr rfl ⟨sp,xs,t2,[r.2.hi,r.2.t],rfl,rfl,xa ht2 _ _ hs1,xW,λe he=>xa ht2 _ _ (hk1 e he),zr rfl ?_⟩)⟩))
   rw [decide_eq_false (fresh _ (.inr rfl))]
   have s2:=s1.trans (xa (o:=HO.tup [V.int r.2.hi,V.int r.2.t]) ht2)
   have hs2:=xa (o:=HO.tup [V.int r.2.hi,V.int r.2.t]) ht2 _ _ hs1
   have hk2:=λe he=>xa (o:=HO.tup [V.int r.2.hi,V.int r.2.t]) ht2 _ _ (hk1 e he)
   generalize upd H6 t2 (HO.tup [V.int r.2.hi,V.int r.2.t])=H7 at *
   refine iteB0 rfl ?_
   have ne:r.2.lo≠r.2.hi:=(raw.each r.2 (zQ.mpr ⟨r,zC hr,rfl⟩)).2.2.2.2.1
   refine (zr rfl ⟨⟨sp,xs,rfl,hs2⟩,zr rfl (zr rfl ⟨by show 2<=sizeLine;omega,λt3 ht3=>⟨sp,xs,t3,[r.2.lo,r.2.t],rfl,rfl,xa ht3 _ _ hs2,xW,λe he=>xa ht3 _ _ (hk2 e he),by omega,λz=>absurd z (fresh _ (.inl rfl)),λ_=>?_⟩⟩)⟩)
   have s3:=(sm.trans s2).trans (xa (o:=HO.tup [V.int r.2.lo,V.int r.2.t]) ht3)
   have s3':=Same.put (o:=setO P w sp (xs++[(t3,[r.2.lo,r.2.t])])) hsp s3
   have n3:t3≠sp:=λz=>by rw [z,hs2] at ht3;cases ht3
   have hk3:∀ e∈xs++[(t3,[r.2.lo,r.2.t])],upd (upd H7 t3 (HO.tup [V.int r.2.lo,V.int r.2.t])) sp (setO P w sp (xs++[(t3,[r.2.lo,r.2.t])])) e.1=some (.tup (e.2.map V.int)):=λe he=>by
    rcases zT.mp he with h | h
    ·have h1:=hk2 e h
     rw [xb (ne_of h1 hs2 (by intro z;cases z))]
     exact xa ht3 _ _ h1
    ·cases zF.mp h
     show upd (upd H7 t3 _) sp _ t3=_
     rw [xb n3];exact xW
   have hs8:upd (upd H7 t3 (HO.tup [V.int r.2.lo,V.int r.2.t])) sp (setO P w sp (xs++[(t3,[r.2.lo,r.2.t])])) sp=some (setO P w sp (xs++[(t3,[r.2.lo,r.2.t])])):=xW
   refine (zr rfl ⟨⟨sp,zr rfl hs8⟩,zr rfl (zr rfl ⟨by show 2<=sizeLine;omega,λt4 ht4=>⟨sp,xs++[(t3,[r.2.lo,r.2.t])],t4,[r.2.hi,r.2.t],rfl,rfl,xa ht4 _ _ hs8,xW,λe he=>xa ht4 _ _ (hk3 e he),by rw [zE,z6];omega,λz=>?_,λ_=>?_⟩⟩)⟩)
   ·exfalso
    rw [zK] at z
    rcases zT.mp z with z | z
    ·exact fresh _ (.inr rfl) z
    ·have z:=zF.mp z
     injection z with z _
     exact ne z.symm
   have n4:t4≠sp:=λz=>by subst z;exact absurd (hs8.symm.trans ht4) (by intro h;cases h)
   refine ⟨xs++[(t3,[r.2.lo,r.2.t])]++[(t4,[r.2.hi,r.2.t])],⟨_,_,_,_,rfl⟩,Same.put hsp (s3'.trans (xa ht4)),xW,λe he=>?_,by rw [zE,zE,z6,z6];omega,λe he=>?_⟩
   ·rcases zT.mp he with h | h
    ·have h1:=hk3 e h
     rw [xb (ne_of h1 hs8 (by intro z;cases z))]
     exact xa ht4 _ _ h1
    ·cases zF.mp h
     show upd (upd _ t4 _) sp _ t4=_
     rw [xb n4];exact xW
   ·rcases zT.mp he with h | h
    ·rcases zT.mp h with h | h
     ·obtain ⟨j,hj,r',hr',e'⟩:=old e h
      exact ⟨j,by omega,r',hr',e'⟩
     ·cases zF.mp h
      exact ⟨i,by omega,r,hr,.inl rfl⟩
    ·cases zF.mp h
     exact ⟨i,by omega,r,hr,.inr rfl⟩
  ·rintro σ H5 ⟨xs,⟨v2,v3,v4,v5,rfl⟩,sm,_⟩
   exact q _ sm
theorem En:FnScope ["meeting", "one", "other", "when", "many"] ["meeting"] (defScope Dv):=⟨rfl,rfl,rfl,by decide +kernel,rfl,by decide +kernel,by decide +kernel⟩
theorem GY (T:Tx K mg a t_LAST_TIME t_MOST_WALKERS t_MOST_ROOM t_MOST_MEETINGS t_MOST_MANY) (B:BmAt mg base):FnOk P w K mg base CX0 1 a.AI a.Bi ["meeting"] (spLsrF):=by
 refine T.A2.ok En (λvs H Q E h=>?_) (λcdv A outer s H vs Q E hr h=>?_)
 ·obtain ⟨t,r,rfl,_⟩:=h;rfl
 ·have nd:=En.nd
  have hu:=hr.units
  obtain ⟨t,r,rfl,ht,q⟩:=h
  refine ⟨_,(@xg _ _ _ (@xj _ _ _ _ _ _ (wU (pv 0) (wD (n:=4) rfl rfl (xf (xc (i:=1) nd rfl (by first | exact Or.inl rfl | exact Or.inr rfl)) (xf (xc (i:=2) nd rfl (by first | exact Or.inl rfl | exact Or.inr rfl)) (xf (xc (i:=3) nd rfl (by first | exact Or.inl rfl | exact Or.inr rfl)) (xf (xc (i:=4) nd rfl (by first | exact Or.inl rfl | exact Or.inr rfl)) wB)))))) (@xu _ _ _ (@xl _ _ _ _ (@wO _ _ _ _ _ (@xV _ _ _ (@xX _ _ _ _ _ (xp (call_min2 rfl) (by rfl) T.b_min yi (@xV _ _ _ (@xX _ _ _ _ _ (pv 1) (@xX _ _ _ _ _ (pv 2) xi rfl) rfl))) (@xX _ _ _ _ _ (xp (call_max2 rfl) (by rfl) T.b_max PyProof.Rows.boot_max (@xV _ _ _ (@xX _ _ _ _ _ (pv 1) (@xX _ _ _ _ _ (pv 2) xi rfl) rfl))) (@xX _ _ _ _ _ (pv 3) (@xX _ _ _ _ _ (pv 4) xi rfl) rfl) rfl) rfl))))))),?_⟩
  have line:=line9
  have ht':H t=some (.tup [.int r.lo,.int r.hi,.int r.t,.int r.m]):=ht
  simp only [gTup,gCons,gNil,tYes,tBM,rAppend,gSub,tAugS,ipI,rU,rIxL,rIxT,rSetL,tSeq,tAsg,tIfS,tRet,tOp,tUn,rI0,rI,tVar,tC,gName,tCall,tCB,tCons,tNil,tAndV,tOrV,tNotV,tNext,tTest,tB,tNot,tAnd,tOr,tDrop,rEq,rNe,scal,tChain,tTup,tLst,tSl,tNoPart,tPart,cxOf,L2.start,zm,yb,zW,yH,xL,xM,List.replicate,yc,yz,zn,yE,yB,Option.some.injEq,exists_eq_left',exists_eq_left,exists_and_left,and_assoc,V.int.injEq,V.ty.injEq,V.str.injEq,V.bl.injEq,V.ref.injEq,List.cons.injEq,and_true,true_and,yV,yW]
  refine ⟨_,SqT.of ht',rfl,zr1 rfl (zr1 rfl (zr1 rfl (zr2 rfl rfl (zr rfl (zr rfl (zr rfl (zr rfl ⟨by omega,λp hp=>?_⟩)))))))⟩
  have e1:(if r.hi < r.lo then r.hi else r.lo)=min r.lo r.hi:=by split <;> omega
  have e2:(if r.hi > r.lo then r.hi else r.lo)=max r.lo r.hi:=by split <;> omega
  rw [e1,e2]
  exact q p _ (xa hp) xW
theorem FJ:FnScope ["rooms", "meetings", "meeting", "told"] ["rooms", "meetings"] (defScope DD):=⟨rfl,rfl,rfl,by decide +kernel,rfl,by decide +kernel,by decide +kernel⟩
theorem IK (T:Tx K mg a t_LAST_TIME t_MOST_WALKERS t_MOST_ROOM t_MOST_MEETINGS t_MOST_MANY) (B:BmAt mg base):FnOk P w K mg base CX0 4 a.Bn a.Bm ["rooms", "meetings"] (spMade a.tP lamPos):=by
 have JQ:=@IM P w _ _ base _ _ _ _ _ _ T B
 have Jh:=@HW P w _ _ base _ _ _ _ _ _ T B
 have Ew:=@D9 P w _ _ base _ _ _ _ _ _ T B
 have HS:=@GY P w _ _ base _ _ _ _ _ _ T B
 refine T.BR.okC T.t_cd FJ (λvs H Q E h=>?_) (λA outer s H vs Q E hr h=>?_)
 ·obtain ⟨_,_,_,_,rfl,_⟩:=h;rfl
 ·have nd:=FJ.nd
  have hu:=hr.units
  obtain ⟨pr,pm,rooms,fs,rfl,hp,h1,h12,hr9,hL,raw,mt,q⟩:=h
  refine ⟨_,(@xg _ _ _ (@xj _ _ _ _ _ _ (@wA _ _ _ _ _ _ _ _ (@wY _ _ _ _ (wT (xh JQ (hr.mono (by decide)) rfl T.Js T.Jx T.JC .nil pass0 (@xV _ _ _ (@xX _ _ _ _ _ (pv 0) xi rfl))))) (@xg _ _ _ (@xu _ _ _ ps_never)) xv) (@xj _ _ _ _ _ _ (@wA _ _ _ _ _ _ _ _ (@PW.pt _ _ _ (@pw_or _ _ _ _ _ _ _ (@wY _ _ _ _ (wT (xp (wb) (by rfl) T.b_isinstance zw (@xV _ _ _ (@xX _ _ _ _ _ (pv 1) (@xX _ _ _ _ _ (pe_bltn (v:=V.ty "list") rfl T.b_list PyProof.Rows.boot_list rfl) xi rfl) rfl))))) (@pw_or1 _ _ _ _ (@xq _ _ _ _ _ _ _ _ op_gt (xp (xo rfl) (by rfl) T.b_len PySem.boot_len (@xV _ _ _ (@xX _ _ _ _ _ (pv 1) xi rfl))) (pe_glob (v:=V.int 60) rfl T.c_MOST_MEETINGS ⟨_,rfl⟩) (nomark _))))) (@xg _ _ _ (@xu _ _ _ ps_never)) xv) (@xj _ _ _ _ _ _ (wV PassesOwn.never rfl (@wN _ _ _ _ _ rfl (pv 1)) (xc (i:=2) nd rfl (by first | exact Or.inl rfl | exact Or.inr rfl)) (@xg _ _ _ (@xu _ _ _ (@wA _ _ _ _ _ _ _ _ (@wY _ _ _ _ (wT (xh Jh (hr.mono (by decide)) rfl T.IS T.IV T.IZ .nil pass0 (@xV _ _ _ (@xX _ _ _ _ _ (xp (xo rfl) (by rfl) T.b_len PySem.boot_len (@xV _ _ _ (@xX _ _ _ _ _ (pv 0) xi rfl))) (@xX _ _ _ _ _ (pv 2) xi rfl) rfl))))) (@xg _ _ _ (@xu _ _ _ ps_never)) xv)))) (@xj _ _ _ _ _ _ (@wA _ _ _ _ _ _ _ _ (wT (xh Ew (hr.mono (by decide)) rfl T.Es T.Et T.Eu .nil pass0 (@xV _ _ _ (@xX _ _ _ _ _ (pv 1) xi rfl)))) (@xg _ _ _ (@xu _ _ _ ps_never)) xv) (@xj _ _ _ _ _ _ (ps_setComp (ix:=3) nd rfl (by first | exact Or.inl rfl | exact Or.inr rfl) (own:=["meeting"]) (caps:=[]) rfl (show CompScope ["meeting"] [] ["rooms", "meetings", "meeting", "told"] (defScope DD) _ from ⟨rfl,by decide +kernel,by decide +kernel,by decide +kernel,by decide +kernel⟩) (@wN _ _ _ _ _ rfl (pv 1)) (λ_ _ _ _=>(xc (i:=0) (show List.Nodup (["meeting"]:List Str) from by decide +kernel) rfl (by first | exact Or.inl rfl | exact Or.inr rfl))) (λ_ _ _ _=>pts_nil) (λ_ _ _ _=>(xh HS (hr.mono (by decide)) rfl T.Hu T.HG T.HK .nil pass0 (@xV _ _ _ (@xX _ _ _ _ _ (pv 0) xi rfl))))) (@xu _ _ _ (@xl _ _ _ _ (@wO _ _ _ _ _ (@xV _ _ _ (@xX _ _ _ _ _ (pe_callTy (call_tuple_of) (by rfl) T.b_tuple yO (@xV _ _ _ (@xX _ _ _ _ _ (pv 0) xi rfl))) (@xX _ _ _ _ _ (pe_callTy (call_tuple_of) (by rfl) T.b_tuple yO (@xV _ _ _ (@xX _ _ _ _ _ (pe_sortKey (N:=["row"]) (pn := "row") (ok:=(λl=>l.length=4)) (kf:=keyF) rfl T.b_sorted rfl T.t_hd B rfl rfl (hr.mono (by decide)) ⟨rfl,rfl,rfl,by decide +kernel,rfl,by decide +kernel,by decide +kernel⟩ (λ_ _ _ _=>rfl) keyF_ne (λ_ _ _ _ _=>⟨_,(@wO _ _ _ _ _ (@xV _ _ _ (@xX _ _ _ _ _ (@xw _ _ _ _ _ _ _ (xy rfl) (pv 0) xY (λ_ _=>rfl)) (@xX _ _ _ _ _ (@xw _ _ _ _ _ _ _ (xy rfl) (pv 0) xY (λ_ _=>rfl)) xi rfl) rfl))),(by intro a r h ho;simp only [gTup,gCons,gNil,tYes,tBM,rAppend,gSub,tAugS,ipI,rU,rIxL,rIxT,rSetL,tSeq,tAsg,tIfS,tRet,tOp,tUn,rI0,rI,tVar,tC,gName,tCall,tCB,tCons,tNil,tAndV,tOrV,tNotV,tNext,tTest,tB,tNot,tAnd,tOr,tDrop,rEq,rNe,scal,tChain,tTup,tLst,tSl,tNoPart,tPart,cxOf,L2.start,zm,yb,zW,yH,xL,xM,List.replicate,yc,yz,zn,yE,yB,Option.some.injEq,exists_eq_left',exists_eq_left,exists_and_left,and_assoc,V.int.injEq,V.ty.injEq,V.str.injEq,V.bl.injEq,V.ref.injEq,List.cons.injEq,and_true,true_and,yV,yW];exact lam_key h ho)⟩) (pv 3) rfl) xi rfl))) xi rfl) rfl))))))))))),?_⟩
  have line:=line9
  have n60:fs.length<=60:=by have:=raw.few;rw [zA] at this;exact this
  refine (zr rfl ⟨pr,rooms,rfl,hp,h1,h12,hr9,λH1 s1=>(zr rfl (iteB0 rfl ?_))⟩)
  refine (zr rfl ⟨_, "list", "list", rfl,tyS_lst (s1 _ _ hL.1),.inr (.inr (.inl rfl)),zr rfl (iteB0 rfl ?_)⟩)
  refine (zr rfl ⟨pm,zr rfl ⟨.inl (SqL.of (s1 _ _ hL.1)),zr2 rfl rfl (zr rfl (iteB0 (decide_eq_false (by rw [zA];omega)) ?_))⟩⟩)
  refine (zr rfl ⟨pm,rfl,⟨_,SqL.of (s1 _ _ hL.1)⟩,?_⟩)
  refine wr (K:=K) (a:=pm) (xs:=fs.map λa=>V.ref a.1) (λi σ H5=>(∃ v2,σ=[some (.ref pr),some (.ref pm),v2,none])/\H1=H5) ⟨⟨_,rfl⟩,rfl⟩ ?_ ?_ ?_
  ·rintro i σ H5 _ ⟨_,rfl⟩
   exact SqL.of (s1 _ _ hL.1)
  ·rintro i x σ H5 hx ⟨⟨v2,rfl⟩,rfl⟩
   obtain ⟨r,hr,rfl⟩:=wL hx
   have hm:=zC hr
   refine (zr rfl ⟨pr,zr rfl ⟨.inl (SqL.of (s1 _ _ hp)),zr rfl ⟨_,r.1,r.2,rfl,s1 _ _ (hL.2 r hm),?_,zr rfl (iteB0 rfl ⟨⟨_,rfl⟩,rfl⟩)⟩⟩⟩)
   rw [zA]
   exact raw.each r.2 (zQ.mpr ⟨r,hm,rfl⟩)
  rintro σ H5 ⟨⟨v2,rfl⟩,rfl⟩
  refine (zr rfl ⟨pm,fs,zr rfl ⟨hL.same s1,raw,λH2 s2=>(zr rfl (iteB0 rfl ?_))⟩⟩)
  have s12:=s1.trans s2
  refine (zr rfl ⟨pm,rfl,⟨_,SqL.of (s12 _ _ hL.1)⟩,?_⟩)
  refine comp_list (K:=K) (a:=pm) (xs:=fs.map λa=>V.ref a.1) (λi τ acc H5=>∃ ts:List (Addr×M4),(∃ t0,τ=[t0])/\acc=(ts.map λa=>V.ref a.1)/\ts.map (·.2)=(fs.take i).map (λa=>a.2.norm)/\RowsAt H5 ts/\Same H H5) ⟨[],⟨_,rfl⟩,rfl,rfl,(λ_ z=>nomatch z),s12⟩ (by rw [zA];omega) ?_ ?_ ?_
  ·rintro i τ acc H5 ⟨ts,⟨t0,rfl⟩,rfl,ets,rw5,sm⟩
   have:=congrArg List.length ets
   rw [zA,zA,zX] at this
   exact ⟨by rw [zA];omega,SqL.of (sm _ _ hL.1)⟩
  ·rintro i x τ acc H5 C hx ⟨ts,⟨t0,rfl⟩,rfl,ets,rw5,sm⟩ hC
   obtain ⟨r,hr,rfl⟩:=wL hx
   refine (zr rfl ⟨r.1,r.2,rfl,sm _ _ (hL.2 r (zC hr)),λt' H6 s6 ht'=>hC _ _ _ ⟨ts++[(t',r.2.norm)],⟨_,rfl⟩,by rw [zK];rfl,by rw [zK,take_snoc hr,zK,ets];rfl,λa ha=>?_,sm.trans s6⟩⟩)
   rcases zT.mp ha with h | h
   ·exact s6 _ _ (rw5 a h)
   ·cases zF.mp h
    exact ht'
  rintro τ acc H5 ⟨ts,⟨t0,rfl⟩,rfl,ets,rw5,sm⟩ lt hlt
  rw [zA,zu] at ets
  have lts:ts.length=fs.length:=by have:=congrArg List.length ets;rwa [zA,zA] at this
  have sn:=xa (o:=HO.lst (ts.map λa=>V.ref a.1)) hlt
  have h6:upd H5 lt (HO.lst (ts.map λa=>V.ref a.1)) lt=some (.lst (ts.map λa=>V.ref a.1)):=xW
  have s6:=sm.trans sn
  have rw6:=rw5.tups (Tups.same sn)
  generalize upd H5 lt (HO.lst (ts.map λa=>V.ref a.1))=H6 at *
  refine (zr rfl ⟨pr,zr rfl (.inl ⟨SqL.of (s6 _ _ hp),λtr htr=>?_⟩)⟩)
  have s7:=xa (o:=HO.tup (rooms.map V.int)) htr
  have h7r:upd H6 tr (HO.tup (rooms.map V.int)) tr=some (.tup (rooms.map V.int)):=xW
  have rw7:=rw6.tups (Tups.same s7)
  have h7:=s7 _ _ h6
  generalize upd H6 tr (HO.tup (rooms.map V.int))=H7 at *
  have m7:=L2.MT.same mt (s6.trans s7)
  refine (zr rfl ⟨lt,ts.map (λa=>(a.1,a.2.ints)),rfl,by rw [yA];exact h7,by rw [zA];omega,m7,λx hx=>?_,λl qs H8 hl8 b8 m8 h8 pm8 so8=>?_⟩)
  ·obtain ⟨y,hy,rfl⟩:=zQ.mp hx
   exact ⟨rw7 y hy,rfl⟩
  obtain ⟨ps,pps,sps,rfl⟩:=keyed_back pm8 so8
  have gd:Good rooms.length (ps.map (·.2)):=by
   refine Loose.good2 ?_ pps sps
   have:=raw.loose
   rw [yA] at this
   rw [ets];exact this
  refine ⟨l,zr rfl (.inl ⟨SqL.of h8,λtm htm=>⟨by show 2<=sizeLine;omega,λb hb=>?_⟩⟩)⟩
  have neT:∀ x u,H7 x=some u->(∀ ys,u≠.tbl ys)->x≠a.tP:=λx u e n z=>by
   rcases m7 with m | ⟨_,m,_⟩ <;> (rw [z,m] at e;cases e;exact n _ rfl)
  have s9:=(xa (o:=HO.tup (List.map (λa=>V.ref a.1) (List.map (λa:Addr×M4=>(a.1,a.2.ints)) ps))) htm).trans (xa (o:=HO.tup [V.ref tr,V.ref tm]) hb)
  refine q b tr tm ps _ (λx u n e=>s9 _ _ (b8 x u n (s7 _ _ (s6 _ _ e)))) (L2.MT.same m8 s9) ⟨xW,s9 _ _ (b8 _ _ (neT _ _ h7r (by intro ys z;cases z)) h7r),?_,λx hx=>?_⟩ gd ?_
  ·rw [xb (xZ xW hb),xW,yA];rfl
  ·have h0:=rw7 x (pps.mem_iff.mp hx)
   exact s9 _ _ (b8 _ _ (neT _ _ h0 (by intro ys z;cases z)) h0)
  ·have:=pps.map (·.2)
   rw [ets] at this
   exact this
theorem C4:FnScope ["book", "thing"] ["book", "thing"] (defScope wf):=⟨rfl,rfl,rfl,by decide +kernel,rfl,by decide +kernel,by decide +kernel⟩
theorem C6 (T:Tx K mg a t_LAST_TIME t_MOST_WALKERS t_MOST_ROOM t_MOST_MEETINGS t_MOST_MANY) (B:BmAt mg base):FnOk P w K mg base CX0 3 a.Aj a.Aw ["book", "thing"] (spIsMeetNo):=by
 have AD:=@ww P w _ _ base _ _ _ _ _ _ T B
 refine T.Ap.ok C4 (λvs H Q E h=>?_) (λcdv A outer s H vs Q E hr h=>?_)
 ·obtain ⟨b,x,t,_,_,_,_,rfl,_⟩:=h;rfl
 ·have nd:=C4.nd
  have hu:=hr.units
  obtain ⟨b,x,t,rooms,tr,tm,ps,rfl,hb,ht,q⟩:=h
  refine ⟨_,(@xg _ _ _ (@xu _ _ _ (@xl _ _ _ _ (xh AD (hr.mono (by decide)) rfl T.Bj T.Bk T.Bl .nil pass0 (@xV _ _ _ (@xX _ _ _ _ _ (pv 1) (@xX _ _ _ _ _ xY (@xX _ _ _ _ _ (@xm _ _ _ _ _ _ _ _ op_sub (xp (xo rfl) (by rfl) T.b_len PySem.boot_len (@xV _ _ _ (@xX _ _ _ _ _ (@xw _ _ _ _ _ _ _ (xy rfl) (pv 0) xY (λ_ _=>rfl)) xi rfl))) xY) xi rfl) rfl) rfl)))))),?_⟩
  refine (zr rfl (zr rfl (ixt hb.book rfl ⟨tm,zr rfl ⟨.inr (SqT.of hb.meets),zr2 rfl rfl ⟨x,t,zr1 rfl ⟨ht,?_⟩⟩⟩⟩)))
  rw [zA]
  exact q
theorem FL:FnScope ["book", "thing"] ["book", "thing"] (defScope EC):=⟨rfl,rfl,rfl,by decide +kernel,rfl,by decide +kernel,by decide +kernel⟩
theorem IL (T:Tx K mg a t_LAST_TIME t_MOST_WALKERS t_MOST_ROOM t_MOST_MEETINGS t_MOST_MANY) (B:BmAt mg base):FnOk P w K mg base CX0 3 a.Bp a.Cj ["book", "thing"] (spIsWalker):=by
 have AD:=@ww P w _ _ base _ _ _ _ _ _ T B
 refine T.BT.ok FL (λvs H Q E h=>?_) (λcdv A outer s H vs Q E hr h=>?_)
 ·obtain ⟨b,x,t,_,_,_,_,rfl,_⟩:=h;rfl
 ·have nd:=FL.nd
  have hu:=hr.units
  obtain ⟨b,x,t,rooms,tr,tm,ps,rfl,hb,ht,q⟩:=h
  refine ⟨_,(@xg _ _ _ (@xu _ _ _ (@xl _ _ _ _ (xh AD (hr.mono (by decide)) rfl T.Bj T.Bk T.Bl .nil pass0 (@xV _ _ _ (@xX _ _ _ _ _ (pv 1) (@xX _ _ _ _ _ xY (@xX _ _ _ _ _ (@xm _ _ _ _ _ _ _ _ op_sub (xp (xo rfl) (by rfl) T.b_len PySem.boot_len (@xV _ _ _ (@xX _ _ _ _ _ (@xw _ _ _ _ _ _ _ (xy rfl) (pv 0) xY (λ_ _=>rfl)) xi rfl))) xY) xi rfl) rfl) rfl)))))),?_⟩
  refine (zr rfl (zr rfl (ixt hb.book rfl ⟨tr,zr rfl ⟨.inr (SqT.of hb.rooms),zr2 rfl rfl ⟨x,t,zr1 rfl ⟨ht,?_⟩⟩⟩⟩)))
  rw [zA]
  exact q
theorem Hj:FnScope ["book", "time"] ["book", "time"] (defScope EY):=⟨rfl,rfl,rfl,by decide +kernel,rfl,by decide +kernel,by decide +kernel⟩
theorem Hn (T:Tx K mg a t_LAST_TIME t_MOST_WALKERS t_MOST_ROOM t_MOST_MEETINGS t_MOST_MANY) (B:BmAt mg base):FnOk P w K mg base CX0 1 a.Cu a.Dr ["book", "time"] (spByTime):=by
 refine T.CY.ok Hj (λvs H Q E h=>?_) (λcdv A outer s H vs Q E hr h=>?_)
 ·obtain ⟨b,t,_,_,_,_,rfl,_⟩:=h;rfl
 ·have nd:=Hj.nd
  have hu:=hr.units
  obtain ⟨b,t,rooms,tr,tm,ps,rfl,hb,hn,q⟩:=h
  refine ⟨_,(@xg _ _ _ (@xu _ _ _ (@xl _ _ _ _ (xp (xo rfl) (by rfl) T.b_len PySem.boot_len (@xV _ _ _ (@xX _ _ _ _ _ (pe_comp (own:=["meeting"]) (caps:=[1]) rfl (show CompScope ["meeting"] [1] ["book", "time"] (defScope EY) _ from ⟨rfl,by decide +kernel,by decide +kernel,by decide +kernel,by decide +kernel⟩) (@pi_tup'' _ _ _ _ _ rfl (@xw _ _ _ _ _ _ _ (xy rfl) (pv 0) xY (λ_ _=>rfl))) (λ_ _ _ _=>(xc (i:=0) (show List.Nodup (["meeting", "time"]:List Str) from by decide +kernel) rfl (by first | exact Or.inl rfl | exact Or.inr rfl))) (λ_ _ _ _=>pts_one (@xq _ _ _ _ _ _ _ _ op_le (@xw _ _ _ _ _ _ _ (xy rfl) (pv 0) xY (λ_ _=>rfl)) (pv 1) (nomark _))) (λ_ _ _ _=>(pv 0))) xi rfl)))))),?_⟩
  refine (zr rfl (ixt hb.book rfl ⟨tm,rfl,⟨_,SqT.of hb.meets⟩,?_⟩))
  refine comp_tup (K:=K) (a:=tm) (xs:=ps.map λa=>V.ref a.1) (λi τ acc H5=>(∃ t0,τ=[t0,some (.int t)])/\acc.length=cnt ((ps.map (·.2)).take i) t/\acc.length<=i/\Same H H5)
   ?_ (by rw [zA];omega) ?_ ?_ ?_
  ·exact ⟨⟨_,rfl⟩,rfl,zD _,Same.refl _⟩
  ·rintro i τ acc H5 ⟨⟨t0,rfl⟩,_,le,sm⟩
   exact ⟨le,SqT.of (sm _ _ hb.meets)⟩
  ·rintro i x τ acc H5 C hx ⟨⟨t0,rfl⟩,ec,le,sm⟩ hC
   obtain ⟨r,hr,rfl⟩:=wL hx
   have hrow:=sm _ _ (hb.rows r (zC hr))
   have hm:(ps.map (·.2))[i]?=some r.2:=by rw [zS,hr];rfl
   refine (zr rfl (ixt hrow rfl (zr rfl (zr2 rfl rfl (zr rfl (iteD (λc=>(zr rfl (hC _ _ _ ?_))) (λc=>hC _ _ _ ?_)))))))
   ·exact ⟨⟨_,rfl⟩,by rw [cnt_snoc hm,if_pos c,zE,ec];rfl,by rw [zE];exact Nat.succ_le_succ le,sm⟩
   ·exact ⟨⟨_,rfl⟩,by rw [cnt_snoc hm,if_neg c,ec];rfl,by omega,sm⟩
  ·rintro τ acc H5 ⟨⟨t0,rfl⟩,ec,le,sm⟩ l hl
   have e:(ps.map λa=>V.ref a.1).length=(ps.map (·.2)).length:=by simp
   rw [e,zu] at ec
   refine ⟨l,zr rfl ⟨.inl (SqL.of xW),?_⟩⟩
   rw [ec]
   exact q _ (sm.trans (xa hl))
theorem KC:FnScope ["book", "told", "number", "one", "other", "when", "many"] ["book"] (defScope JU):=⟨rfl,rfl,rfl,by decide +kernel,rfl,by decide +kernel,by decide +kernel⟩
theorem KH (T:Tx K mg a t_LAST_TIME t_MOST_WALKERS t_MOST_ROOM t_MOST_MEETINGS t_MOST_MANY) (B:BmAt mg base):FnOk P w K mg base CX0 1 a.EU a.Gu ["book"] (spWays):=by
 refine T.FH.ok KC (λvs H Q E h=>?_) (λcdv A outer s H vs Q E hr h=>?_)
 ·obtain ⟨b,_,_,_,_,rfl,_⟩:=h;rfl
 ·have nd:=KC.nd
  have hu:=hr.units
  obtain ⟨b,rooms,tr,tm,ps,rfl,hb,gd,q⟩:=h
  refine ⟨_,(@xg _ _ _ (@xj _ _ _ _ _ _ (xk (i:=1) nd rfl (by first | exact Or.inl rfl | exact Or.inr rfl) (@wC _ _ _ _ wK)) (@xj _ _ _ _ _ _ (wV PassesOwn.never rfl (pi_enumT rfl rfl T.b_enumerate (@xV _ _ _ (@xX _ _ _ _ _ (@xw _ _ _ _ _ _ _ (xy rfl) (pv 0) xY (λ_ _=>rfl)) xi rfl))) (wD (n:=2) rfl rfl (xf (xc (i:=2) nd rfl (by first | exact Or.inl rfl | exact Or.inr rfl)) (xf (wD (n:=4) rfl rfl (xf (xc (i:=3) nd rfl (by first | exact Or.inl rfl | exact Or.inr rfl)) (xf (xc (i:=4) nd rfl (by first | exact Or.inl rfl | exact Or.inr rfl)) (xf (xc (i:=5) nd rfl (by first | exact Or.inl rfl | exact Or.inr rfl)) (xf (xc (i:=6) nd rfl (by first | exact Or.inl rfl | exact Or.inr rfl)) wB))))) wB))) (@xg _ _ _ (@xj _ _ _ _ _ _ (wJ (pe_bm zd zZ za wI (pv 1) (@xV _ _ _ (@xX _ _ _ _ _ (@wO _ _ _ _ _ (@xV _ _ _ (@xX _ _ _ _ _ (pv 2) (@xX _ _ _ _ _ (pv 3) (@xX _ _ _ _ _ (pv 4) (@xX _ _ _ _ _ (pv 5) xi rfl) rfl) rfl) rfl))) xi rfl)))) (@xu _ _ _ (wJ (pe_bm zd zZ za wI (pv 1) (@xV _ _ _ (@xX _ _ _ _ _ (@wO _ _ _ _ _ (@xV _ _ _ (@xX _ _ _ _ _ (pv 2) (@xX _ _ _ _ _ (pv 4) (@xX _ _ _ _ _ (pv 3) (@xX _ _ _ _ _ (pv 5) xi rfl) rfl) rfl) rfl))) xi rfl)))))))) (@xu _ _ _ (@xl _ _ _ _ (pv 1)))))),?_⟩
  have line:=line9
  have l60:=gd.len
  refine ⟨zc _,λl hl=>?_⟩
  have hb1:=hb.same (xa (o:=HO.lst []) hl)
  refine (zr rfl (ixt hb1.book rfl ⟨tm,rfl,⟨_,SqT.of hb1.meets⟩,?_⟩))
  refine for_enumT (K:=K) (a:=tm) (xs:=ps.map λa=>V.ref a.1) (λi σ H4=>(∃ v2 v3 v4 v5 v6,σ=[some (.ref b),some (.ref l),v2,v3,v4,v5,v6])/\Same H H4/\∃ ws:List (Addr×W4),H4 l=some (.lst (ws.map λa=>V.ref a.1))/\(∀ a∈ws,H4 a.1=some (.tup a.2.vs))/\ws.map (·.2)=waysN (ps.map (·.2)) i/\ws.length=2 * i)
   ⟨⟨_,_,_,_,_,rfl⟩,xa hl,[],xW,(λ_ z=>nomatch z),rfl,rfl⟩ (λi σ H4 _ h4=>SqT.of ((hb.same h4.2.1).meets)) ?_ ?_
  ·rintro i x q' σ H4 hx hq ⟨⟨v2,v3,v4,v5,v6,rfl⟩,sm,ws,h4,hr,ew,lw⟩
   obtain ⟨r,hr1,rfl⟩:=wL hx
   have hi:i < ps.length:=(zB.mp hr1).1
   have hm:(ps.map (·.2))[i]?=some r.2:=by rw [zS,hr1];rfl
   obtain ⟨a1,a2,a3,a4,a5,_⟩:=gd.at (zC hr1)
   have sm1:=sm.trans (xa (o:=HO.tup [.int i,.ref r.1]) hq)
   have hrow:=(hb.same sm1).rows r (zC hr1)
   have h5:=(xa (o:=HO.tup [.int i,.ref r.1]) hq) _ _ h4
   refine ⟨q',zr rfl ⟨SqT.of xW,rfl,zr1 rfl (zr1 rfl (un4 hrow ⟨rfl,?_⟩))⟩⟩
   refine (zr rfl ⟨.inl ⟨rfl,_,SqL.of h5⟩,zr rfl (zr rfl (zr rfl (zr rfl ⟨by show 4<=sizeLine;omega,λt1 ht1=>⟨l,zr2 rfl rfl ⟨xa ht1 _ _ h5,by rw [zA];omega,?_⟩⟩⟩)))⟩)
   have n1:t1≠l:=(xZ h5 ht1).symm
   refine (zr rfl ⟨.inl ⟨rfl,_,SqL.of xW⟩,zr rfl (zr rfl (zr rfl (zr rfl ⟨by show 4<=sizeLine;omega,λt2 ht2=>⟨l,zr2 rfl rfl ⟨xa ht2 _ _ xW,by rw [zE,zA];show ws.length + 1 < sizeLine;omega,?_⟩⟩⟩)))⟩)
   have n2:t2≠l:=λz=>by rw [z,xW] at ht2;cases ht2
   have n12:t1≠t2:=λz=>by rw [<-z,xb n1,xW] at ht2;cases ht2
   have e1:(r.2.lo.toNat:Int)=r.2.lo:=yS a1
   have e2:(r.2.hi.toNat:Int)=r.2.hi:=yS (by omega)
   have sm2:Same H (upd (upd (upd (upd (upd H4 q' (.tup [.int i,.ref r.1])) t1 (.tup [.int i,.int r.2.lo,.int r.2.hi,.int r.2.t])) l (.lst ((ws.map λa=>V.ref a.1)++[.ref t1]))) t2 (.tup [.int i,.int r.2.hi,.int r.2.lo,.int r.2.t])) l (.lst ((ws.map λa=>V.ref a.1)++[.ref t1]++[.ref t2]))):=
    Same.put hl ((Same.put hl (sm1.trans (xa ht1))).trans (xa ht2))
   refine ⟨⟨_,_,_,_,_,rfl⟩,sm2,ws++[(t1,⟨i,⟨r.2.lo.toNat,r.2.hi.toNat,r.2.t⟩⟩),(t2,⟨i,⟨r.2.hi.toNat,r.2.lo.toNat,r.2.t⟩⟩)],?_,λa ha=>?_,?_,?_⟩
   ·rw [xW,zK,xC];rfl
   ·rcases zT.mp ha with h | h
    ·have:=hr a h
     have na:a.1≠l:=ne_of this h4 (by intro z;cases z)
     have b1:=xa (o:=HO.tup [.int i,.ref r.1]) hq _ _ this
     have b2:=xa (o:=HO.tup [.int i,.int r.2.lo,.int r.2.hi,.int r.2.t]) ht1 _ _ b1
     rw [xb na]
     exact xa ht2 _ _ (by rw [xb na];exact b2)
    ·simp only [zH,yf,or_false] at h
     rcases h with rfl | rfl
     ·rw [xb n1]
      refine xa ht2 _ _ ?_
      rw [xb n1,xW]
      show _=some (HO.tup [.int i,.int (r.2.lo.toNat:Int),.int (r.2.hi.toNat:Int),.int r.2.t])
      rw [e1,e2]
     ·rw [xb n2,xW]
      show _=some (HO.tup [.int i,.int (r.2.hi.toNat:Int),.int (r.2.lo.toNat:Int),.int r.2.t])
      rw [e1,e2]
   ·rw [zK,ew,waysN_succ hm];rfl
   ·rw [zE,lw];show 2 * i + 2=_;omega
  ·rintro σ H4 ⟨⟨v2,v3,v4,v5,v6,rfl⟩,sm,ws,h4,hr,ew,lw⟩
   rw [zA] at ew
   exact (zr rfl (q l ws _ hl sm h4 hr ew))
theorem GA:FnScope ["book", "number", "walker", "one", "other", "when", "many"] ["book", "number", "walker"] (defScope Fm):=⟨rfl,rfl,rfl,by decide +kernel,rfl,by decide +kernel,by decide +kernel⟩
theorem GJ (T:Tx K mg a t_LAST_TIME t_MOST_WALKERS t_MOST_ROOM t_MOST_MEETINGS t_MOST_MANY) (B:BmAt mg base):FnOk P w K mg base CX0 1 a.BI a.CG ["book", "number", "walker"] (spOtherAt):=by
 refine T.B9.ok GA (λvs H Q E h=>?_) (λcdv A outer s H vs Q E hr h=>?_)
 ·obtain ⟨b,k,v,_,_,_,_,_,rfl,_⟩:=h;rfl
 ·have nd:=GA.nd
  have hu:=hr.units
  obtain ⟨b,k,v,rooms,tr,tm,ps,m,rfl,hb,hm,q⟩:=h
  refine ⟨_,(@xg _ _ _ (@xj _ _ _ _ _ _ (wU (@xw _ _ _ _ _ _ _ (xy rfl) (@xw _ _ _ _ _ _ _ (xy rfl) (pv 0) xY (λ_ _=>rfl)) (pv 1) (λ_ _=>rfl)) (wD (n:=4) rfl rfl (xf (xc (i:=3) nd rfl (by first | exact Or.inl rfl | exact Or.inr rfl)) (xf (xc (i:=4) nd rfl (by first | exact Or.inl rfl | exact Or.inr rfl)) (xf (xc (i:=5) nd rfl (by first | exact Or.inl rfl | exact Or.inr rfl)) (xf (xc (i:=6) nd rfl (by first | exact Or.inl rfl | exact Or.inr rfl)) wB)))))) (@xu _ _ _ (@xl _ _ _ _ (@pe_ifExp _ _ _ _ _ _ _ _ (@xq _ _ _ _ _ _ _ _ wt (pv 2) (pv 3) (nomark _)) (pv 4) (pv 3)))))),?_⟩
  have hk:k < ps.length:=by
   have:=(zB.mp hm).1
   simpa using this
  have em:ps[k].2=m:=by
   rw [zS,zL hk] at hm
   exact Option.some.inj hm
  have hrow:=hb.rows _ (zj hk)
  rw [em] at hrow
  refine (zr rfl (ixt hb.book rfl (zr rfl (ixt hb.meets (wF (v:=V.ref ps[k].1) (by simp [hk])) (un4 hrow ?_)))))
  refine (zr rfl (zr rfl ⟨rfl,zr rfl (iteD (λc=>?_) (λc=>?_))⟩))
  ·rw [if_pos (V.int.inj c)] at q
   exact (zr rfl q)
  ·rw [if_neg λz=>c (by rw [z])] at q
   exact (zr rfl q)
theorem GB:FnScope ["book", "walker", "number"] ["book", "walker", "number"] (defScope D3):=⟨rfl,rfl,rfl,by decide +kernel,rfl,by decide +kernel,by decide +kernel⟩
theorem Jj (T:Tx K mg a t_LAST_TIME t_MOST_WALKERS t_MOST_ROOM t_MOST_MEETINGS t_MOST_MANY) (B:BmAt mg base):FnOk P w K mg base CX0 1 a.BJ a.CI ["book", "walker", "number"] (spLone):=by
 refine T.Ca.ok GB (λvs H Q E h=>?_) (λcdv A outer s H vs Q E hr h=>?_)
 ·obtain ⟨b,k,x,_,_,_,_,rfl,_⟩:=h;rfl
 ·have nd:=GB.nd
  have hu:=hr.units
  obtain ⟨b,k,x,rooms,tr,tm,ps,rfl,hb,hn,q⟩:=h
  refine ⟨_,(@xg _ _ _ (@xu _ _ _ (@xl _ _ _ _ (pe_comp (own:=["other"]) (caps:=[2,1]) rfl (show CompScope ["other"] [2,1] ["book", "walker", "number"] (defScope D3) _ from ⟨rfl,by decide +kernel,by decide +kernel,by decide +kernel,by decide +kernel⟩) (wc rfl T.b_range (@xV _ _ _ (@xX _ _ _ _ _ (xp (xo rfl) (by rfl) T.b_len PySem.boot_len (@xV _ _ _ (@xX _ _ _ _ _ (@xw _ _ _ _ _ _ _ (xy rfl) (pv 0) xY (λ_ _=>rfl)) xi rfl))) xi rfl))) (λ_ _ _ _=>(xc (i:=0) (show List.Nodup (["other", "number", "walker"]:List Str) from by decide +kernel) rfl (by first | exact Or.inl rfl | exact Or.inr rfl))) (λ_ _ _ _=>pts_nil) (λ_ _ _ _=>(@pe_ifExp _ _ _ _ _ _ _ _ (@xq _ _ _ _ _ _ _ _ wt (pv 0) (pv 2) (nomark _)) (pv 1) pe_non)))))),?_⟩
  refine (zr rfl (ixt hb.book rfl ⟨tr,zr rfl ⟨.inr (SqT.of hb.rooms),zr rfl ⟨by rw [zA];omega,by rw [zA];omega,?_⟩⟩⟩))
  refine comp_range (lo:=0) (m:=(rooms.map V.int).length) (λi τ acc H5=>(∃ t0,τ=[t0,some (.int x),some (.int k)])/\acc=(rep i (lone k x)).map oV/\H5=H) ?_ (by rw [zA];omega) ?_ ?_ ?_
  ·exact ⟨⟨_,rfl⟩,rfl,rfl⟩
  ·rintro i τ acc H5 ⟨⟨t0,rfl⟩,rfl,rfl⟩
   rw [zA,rep_len];exact zD _
  ·rintro i τ acc H5 C hi ⟨⟨t0,rfl⟩,rfl,rfl⟩ hC
   have snoc:∀ v,oV (lone k x i)=v->(rep i (lone k x)).map oV++[v]=(rep (i + 1) (lone k x)).map oV:=λv e=>by
    unfold rep
    rw [yy,zK,zK,<- e];rfl
   refine (zr rfl (zr rfl ⟨rfl,zr rfl (iteD (λc=>(zr rfl (hC _ _ _ ⟨⟨_,rfl⟩,snoc _ ?_,rfl⟩))) (λc=>hC _ _ _ ⟨⟨_,rfl⟩,snoc _ ?_,rfl⟩))⟩))
   ·have:i=k:=by have:=V.int.inj c;omega
    unfold lone
    rw [if_pos this];rfl
   ·have:i≠k:=λz=>c (by rw [z];simp)
    unfold lone
    rw [if_neg this];rfl
  ·rintro τ acc H5 ⟨⟨t0,rfl⟩,rfl,rfl⟩ l hl
   rw [zA]
   exact q l _ hl (xa hl) xW
theorem Em:FnScope ["book", "meeting"] ["book", "meeting"] (defScope Du):=⟨rfl,rfl,rfl,by decide +kernel,rfl,by decide +kernel,by decide +kernel⟩
theorem GX (T:Tx K mg a t_LAST_TIME t_MOST_WALKERS t_MOST_ROOM t_MOST_MEETINGS t_MOST_MANY) (B:BmAt mg base):FnOk P w K mg base CX0 4 a.AH a.Bh ["book", "meeting"] (spNeedM):=by
 have B8:=@C6 P w _ _ base _ _ _ _ _ _ T B
 refine T.A0.ok Em (λvs H Q E h=>?_) (λcdv A outer s H vs Q E hr h=>?_)
 ·obtain ⟨_,_,_,_,_,_,rfl,_⟩:=h;rfl
 ·have nd:=Em.nd
  have hu:=hr.units
  obtain ⟨b,n,rooms,tr,tm,ps,rfl,hb,hn,q⟩:=h
  refine ⟨_,(@xg _ _ _ (@xu _ _ _ (@wA _ _ _ _ _ _ _ _ (@wY _ _ _ _ (wT (xh B8 (hr.mono (by decide)) rfl T.Dh T.Di T.Dj .nil pass0 (@xV _ _ _ (@xX _ _ _ _ _ (pv 0) (@xX _ _ _ _ _ (pv 1) xi rfl) rfl))))) (@xg _ _ _ (@xu _ _ _ ps_never)) xv))),?_⟩
  refine (zr rfl (zr rfl ⟨b,.int (n:Int),ex5 ("int") rooms tr tm ps ⟨rfl,hb,rfl,zr rfl (iteB0 ?_ q)⟩⟩))
  have h1:(0:Int)<=n:=by omega
  have h2:(n:Int)<=(ps.length:Int) - 1:=by omega
  simp [inB,h1,h2]
theorem Hf:FnScope ["book", "meeting", "rooms", "meetings"] ["book", "meeting"] (defScope EX):=⟨rfl,rfl,rfl,by decide +kernel,rfl,by decide +kernel,by decide +kernel⟩
theorem D8 (T:Tx K mg a t_LAST_TIME t_MOST_WALKERS t_MOST_ROOM t_MOST_MEETINGS t_MOST_MANY) (B:BmAt mg base):FnOk P w K mg base CX0 5 a.Cq a.Dm ["book", "meeting"] (spWithout a.tP lamPos):=by
 have JP:=@IK P w _ _ base _ _ _ _ _ _ T B
 have HR:=@GX P w _ _ base _ _ _ _ _ _ T B
 refine T.CT.ok Hf (λvs H Q E h=>?_) (λcdv A outer s H vs Q E hr h=>?_)
 ·obtain ⟨_,_,_,_,_,_,rfl,_⟩:=h;rfl
 ·have nd:=Hf.nd
  have hu:=hr.units
  obtain ⟨b,n,rooms,tr,tm,ps,rfl,hb,hn,rm1,rm2,rm9,gd,mt,q⟩:=h
  refine ⟨_,(@xg _ _ _ (@xj _ _ _ _ _ _ (wJ (xh HR (hr.mono (by decide)) rfl T.Ht T.Hy T.HJ .nil pass0 (@xV _ _ _ (@xX _ _ _ _ _ (pv 0) (@xX _ _ _ _ _ (pv 1) xi rfl) rfl)))) (@xj _ _ _ _ _ _ (wU (pv 0) (wD (n:=2) rfl rfl (xf (xc (i:=2) nd rfl (by first | exact Or.inl rfl | exact Or.inr rfl)) (xf (xc (i:=3) nd rfl (by first | exact Or.inl rfl | exact Or.inr rfl)) wB)))) (@xu _ _ _ (@xl _ _ _ _ (xh JP (hr.mono (by decide)) rfl T.Jr T.Jw T.JB .nil pass0 (@xV _ _ _ (@xX _ _ _ _ _ (pe_callTy (call_list_of' rfl) (by rfl) T.b_list PyProof.Rows.boot_list (@xV _ _ _ (@xX _ _ _ _ _ (pv 2) xi rfl))) (@xX _ _ _ _ _ (pe_comp (own:=["number", "row"]) (caps:=[1]) rfl (show CompScope ["number", "row"] [1] ["book", "meeting", "rooms", "meetings"] (defScope EX) _ from ⟨rfl,by decide +kernel,by decide +kernel,by decide +kernel,by decide +kernel⟩) (pi_enumT rfl rfl T.b_enumerate (@xV _ _ _ (@xX _ _ _ _ _ (pv 3) xi rfl))) (λ_ _ _ _=>(wD (n:=2) rfl rfl (xf (xc (i:=0) (show List.Nodup (["number", "row", "meeting"]:List Str) from by decide +kernel) rfl (by first | exact Or.inl rfl | exact Or.inr rfl)) (xf (xc (i:=1) (show List.Nodup (["number", "row", "meeting"]:List Str) from by decide +kernel) rfl (by first | exact Or.inl rfl | exact Or.inr rfl)) wB)))) (λ_ _ _ _=>pts_one (@xq _ _ _ _ _ _ _ _ op_ne (pv 0) (pv 2) (nomark _))) (λ_ _ _ _=>(pv 1))) xi rfl) rfl)))))))),?_⟩
  have line:=line9
  have n60:=gd.len
  refine (zr rfl (zr rfl (ex6 b n rooms tr tm ps ⟨rfl,hb,hn,?_⟩)))
  refine (zr rfl (un2 hb.book ?_))
  refine (zr rfl ⟨tr,zr rfl ⟨.inr (SqT.of hb.rooms),λlr hlr=>?_⟩⟩)
  have s1:=xa (o:=HO.lst (rooms.map V.int)) hlr
  have h1:upd H lr (HO.lst (rooms.map V.int)) lr=some (.lst (rooms.map V.int)):=xW
  generalize upd H lr (HO.lst (rooms.map V.int))=H1 at *
  have hb1:=hb.same s1
  have mt1:=L2.MT.same mt s1
  refine (zr rfl ⟨tm,rfl,⟨_,SqT.of hb1.meets⟩,?_⟩)
  refine comp_enumT (K:=K) (a:=tm) (xs:=ps.map λa=>V.ref a.1) (λi τ acc H5=>(∃ t0 t1,τ=[t0,t1,some (.int (n:Int))])/\acc=((ps.take i).eraseIdx n).map (λa=>V.ref a.1)/\Same H1 H5) ⟨⟨_,_,rfl⟩,rfl,Same.refl _⟩ (by rw [zA];omega) ?_ ?_ ?_
  ·rintro i τ acc H5 ⟨⟨t0,t1,rfl⟩,rfl,sm⟩
   exact ⟨by rw [zA];exact z8 (List.length_eraseIdx_le _ _) (by rw [zX];exact Nat.min_le_left _ _),SqT.of (sm _ _ hb1.meets)⟩
  ·rintro i x k τ acc H5 C hx hk ⟨⟨t0,t1,rfl⟩,rfl,sm⟩ hC
   obtain ⟨r,hr,rfl⟩:=wL hx
   refine (un2 xW ?_)
   refine (zr rfl (zr rfl ⟨rfl,zr rfl ?_⟩))
   by_cases c:i=n
   ·subst c
    exact iteB0 (by simp) (hC _ _ _ ⟨⟨_,_,rfl⟩,by rw [erase_take_at hr],sm.trans (xa hk)⟩)
   ·refine iteB1 (by simp;omega) ?_
    exact (zr rfl (hC _ _ _ ⟨⟨_,_,rfl⟩,by rw [erase_take_snoc hr c,zK];rfl,sm.trans (xa hk)⟩))
  ·rintro τ acc H5 ⟨⟨t0,t1,rfl⟩,rfl,sm⟩ lc hlc
   rw [zA,zu]
   have s2:=sm.trans (xa (o:=HO.lst ((ps.eraseIdx n).map λa=>V.ref a.1)) hlc)
   have gf:Good rooms.length ((ps.eraseIdx n).map (·.2)):=gd.sub ((yM ps n).map _)
   refine ⟨lr,lc,rooms,ps.eraseIdx n,rfl,s2 _ _ h1,rm1,rm2,rm9,⟨xW,λx hx=>s2 _ _ (hb1.rows x ((yM ps n).subset hx))⟩,gf.raw,L2.MT.same mt1 s2,λb' tr' tm' ps' H' b8 mt8 hb' gd' pm'=>?_⟩
   refine q b' tr' tm' ps' H' (λx u n e=>b8 x u n (s2 _ _ (s1 _ _ e))) mt8 hb' ?_
   have e2:(ps.eraseIdx n).map (λa=>a.2.norm)=(ps.eraseIdx n).map (·.2):=by
    have:=gf.norm
    rw [yA] at this
    exact this
   rw [e2] at pm'
   rw [gd'.eq gf pm',erase_map]
theorem Dt:FnScope ["self", "many"] ["self", "many"] (defScope wa):=⟨rfl,rfl,rfl,by decide +kernel,rfl,by decide +kernel,by decide +kernel⟩
theorem Fw (T:Tx K mg a t_LAST_TIME t_MOST_WALKERS t_MOST_ROOM t_MOST_MEETINGS t_MOST_MANY) (B:BmAt mg base):FnOk P w K mg base CX0 1 a.Ai a.AJ ["self", "many"] (spInitS a.Aa):=by
 refine T.Aq.ok Dt (λvs H Q E h=>?_) (λcdv A outer s H vs Q E hr h=>?_)
 ·obtain ⟨_,_,_,rfl,_⟩:=h;rfl
 ·have nd:=Dt.nd
  have hu:=hr.units
  obtain ⟨x,dx,n,rfl,hx,n3,q⟩:=h
  refine ⟨_,(@xg _ _ _ (@xj _ _ _ _ _ _ (ps_fld (pv 0) xY rfl) (@xj _ _ _ _ _ _ (ps_fld (pv 0) (pe_comp (own:=["point"]) (caps:=[]) rfl (show CompScope ["point"] [] ["self", "many"] (defScope wa) _ from ⟨rfl,by decide +kernel,by decide +kernel,by decide +kernel,by decide +kernel⟩) (wc rfl T.b_range (@xV _ _ _ (@xX _ _ _ _ _ (pv 1) xi rfl))) (λ_ _ _ _=>(xc (i:=0) (show List.Nodup (["point"]:List Str) from by decide +kernel) rfl (by first | exact Or.inl rfl | exact Or.inr rfl))) (λ_ _ _ _=>pts_nil) (λ_ _ _ _=>(@wC _ _ _ _ wK))) rfl) (@xj _ _ _ _ _ _ (ps_fld (pv 0) (@wC _ _ _ _ wK) rfl) (@xu _ _ _ (ps_fld (pv 0) (@wC _ _ _ _ wK) rfl)))))),?_⟩
  have line:8000<=sizeLine:=by rw [sizeLine_eq];decide
  refine (zr rfl ⟨x,_,dx,zr rfl ⟨hx,T.Ag,T.n_Stream_source,by decide,?_⟩⟩)
  have b1:But x H (upd H x (.ins a.Aa dx [("source", .int 0)])):=But.set
  have i1:upd H x (.ins a.Aa dx [("source", .int 0)]) x=some (.ins a.Aa dx [("source", .int 0)]):=xW
  show tSeq _ _ _ _ (upd H x (.ins a.Aa dx [("source", .int 0)]))
  generalize upd H x (.ins a.Aa dx [("source", .int 0)])=H1 at b1 i1 ⊢
  refine (zr rfl ⟨(n:Int),rfl,by omega,by omega,?_⟩)
  refine comp_rangeB (lo:=0) (m:=n) (λi τ acc H5=>∃ rs:List Addr,(∃ t0,τ=[t0])/\acc=rs.map V.ref/\rs.length=i/\Same H1 H5/\rs.Nodup/\∀ r∈rs,H1 r=none/\H5 r=some (.lst [])) ⟨[],⟨_,rfl⟩,rfl,rfl,Same.refl _,.nil,λ_ h=>nomatch h⟩ (by omega) ?_ ?_ ?_
  ·rintro i τ acc H5 ⟨rs,_,rfl,rfl,_⟩
   rw [zA];exact zD _
  ·rintro i τ acc H5 C hi ⟨rs,⟨t0,rfl⟩,rfl,rfl,s1,nd,hr⟩ hC
   refine ⟨by show 0<=_;omega,λp hp=>?_⟩
   refine hC _ _ _ ⟨rs++[p],⟨_,rfl⟩,by rw [zK];rfl,by rw [zE];rfl,s1.trans (xa hp),?_,λr hr'=>?_⟩
   ·exact List.nodup_append.mpr ⟨nd,ze.mpr ⟨by simp,.nil⟩,λb hb c hc=>by rw [zF.mp hc];exact xZ (hr b hb).2 hp⟩
   ·rcases zT.mp hr' with h | h
    ·exact ⟨(hr r h).1,by rw [xb (xZ (hr r h).2 hp)];exact (hr r h).2⟩
    ·rw [zF.mp h];exact ⟨s1.free hp,xW⟩
  ·rintro τ acc H5 ⟨rs,_,rfl,hl,s1,nd,hr⟩ lA hA
   have s2:Same H5 (upd H5 lA (.lst (rs.map V.ref))):=xa hA
   have a2:upd H5 lA (.lst (rs.map V.ref)) lA=some (.lst (rs.map V.ref)):=xW
   have fA:=s1.free hA
   have nA:lA ∉ rs:=λh=>xZ (hr _ h).2 hA rfl
   generalize upd H5 lA (.lst (rs.map V.ref))=H2 at s2 a2 ⊢
   have hr2:∀ r∈rs,H2 r=some (.lst []):=λr h=>s2 _ _ (hr r h).2
   have s2:=s1.trans s2
   have i2:=s2 _ _ i1
   have xA:lA≠x:=Ne.symm (xZ i1 fA)
   have xr:∀ r∈rs,r≠x:=λr h=>Ne.symm (xZ i1 (hr r h).1)
   refine (zr rfl ⟨x,_,dx,zr rfl ⟨i2,T.Ag,T.n_Stream_arcs,by decide,?_⟩⟩)
   have b3:But x H2 (upd H2 x (.ins a.Aa dx [("source", .int 0),("arcs", .ref lA)])):=But.set
   have i3:upd H2 x (.ins a.Aa dx [("source", .int 0),("arcs", .ref lA)]) x=some (.ins a.Aa dx [("source", .int 0),("arcs", .ref lA)]):=xW
   show tSeq _ _ _ _ (upd H2 x (.ins a.Aa dx [("source", .int 0),("arcs", .ref lA)]))
   generalize upd H2 x _=H3 at b3 i3 ⊢
   have a3:=b3 _ _ xA a2
   have hr3:∀ r∈rs,H3 r=some (.lst []):=λr h=>b3 _ _ (xr r h) (hr2 r h)
   have c3:But x H H3:=(b1.trans (Same.but s2)).trans b3
   refine ⟨by show 0<=_;omega,λlE hE=>?_⟩
   have s4:Same H3 (upd H3 lE (.lst [])):=xa hE
   have e4:upd H3 lE (.lst []) lE=some (.lst []):=xW
   generalize upd H3 lE _=H4 at s4 e4 ⊢
   have xE:lE≠x:=Ne.symm (xZ i3 hE)
   have nE:lE ∉ rs:=λh=>xZ (hr3 _ h) hE rfl
   have AE:lA≠lE:=xZ a3 hE
   refine (zr rfl ⟨x,_,dx,zr rfl ⟨s4 _ _ i3,T.Ag,T.n_Stream_ends,by show 2 < 1000;decide,?_⟩⟩)
   have b5:But x H4 (upd H4 x (.ins a.Aa dx [("source", .int 0),("arcs", .ref lA),("ends", .ref lE)])):=But.set
   have i5:upd H4 x (.ins a.Aa dx [("source", .int 0),("arcs", .ref lA),("ends", .ref lE)]) x=some (.ins a.Aa dx [("source", .int 0),("arcs", .ref lA),("ends", .ref lE)]):=xW
   have ep:putF "ends" (.ref lE) [("source", .int 0),("arcs", .ref lA)]=([("source", .int 0),("arcs", .ref lA),("ends", .ref lE)]:List (Str×V)):=by rw [putF,if_neg (by decide),putF,if_neg (by decide),putF]
   rw [ep]
   generalize upd H4 x _=H6 at b5 i5 ⊢
   have b6:But x H3 H6:=But.trans (Same.but s4) b5
   refine ⟨by show 0<=_;omega,λlS hS=>?_⟩
   have s7:Same H6 (upd H6 lS (.lst [])):=xa hS
   have e7:upd H6 lS (.lst []) lS=some (.lst []):=xW
   generalize upd H6 lS _=H7 at s7 e7 ⊢
   have xS:lS≠x:=Ne.symm (xZ i5 hS)
   have nS:lS ∉ rs:=λh=>xZ (b6 _ _ (xr _ h) (hr3 _ h)) hS rfl
   have AS:lA≠lS:=xZ (b6 _ _ xA a3) hS
   have ES:lE≠lS:=xZ (b5 _ _ xE e4) hS
   have b7:But x H6 (upd H7 x (.ins a.Aa dx [("source", .int 0),("arcs", .ref lA),("ends", .ref lE),("spare", .ref lS)])):=But.trans (Same.but s7) But.set
   refine (zr rfl ⟨x,_,dx,zr rfl ⟨s7 _ _ i5,T.Ag,T.n_Stream_spare,by show 3 < 1000;decide,q lA lE lS rs _ (c3.trans (b6.trans b7)) ⟨⟨xW,b7 _ _ xA (b6 _ _ xA a3),λp r hp=>b7 _ _ (xr r (zC hp)) (b6 _ _ (xr r (zC hp)) (hr3 r (zC hp))),b7 _ _ xE (b5 _ _ xE e4),by rw [xb xS];exact e7,?_⟩,hl,(λ_ h=>by cases h),⟨rfl,(λa h=>absurd h (by simp)),(λk x h=>by cases h)⟩,n3,by show 0<=3000;decide⟩ ?_⟩⟩)
   ·exact ze.mpr ⟨by simp [AE,AS,nA],ze.mpr ⟨by simp [ES,nE],ze.mpr ⟨nS,nd⟩⟩⟩
   ·intro b hb
    rcases zH.mp hb with rfl | hb
    ·exact b1.free xA fA
    rcases zH.mp hb with rfl | hb
    ·exact c3.free xE hE
    rcases zH.mp hb with rfl | hb
    ·exact (c3.trans b6).free xS hS
    exact b1.free (xr b hb) (hr b hb).1
theorem Fk:FnScope ["self", "here", "there", "most", "number"] ["self", "here", "there", "most"] (defScope D7):=⟨rfl,rfl,rfl,by decide +kernel,rfl,by decide +kernel,by decide +kernel⟩
theorem HZ (T:Tx K mg a t_LAST_TIME t_MOST_WALKERS t_MOST_ROOM t_MOST_MEETINGS t_MOST_MANY) (B:BmAt mg base):FnOk P w K mg base CX0 1 a.Bb a.B5 ["self", "here", "there", "most"] (spTieS a.Aa):=by
 refine T.Bc.ok Fk (λvs H Q E h=>?_) (λcdv A outer s H vs Q E hr h=>?_)
 ·obtain ⟨_,_,_,_,_,_,_,_,_,_,_,_,_,rfl,_⟩:=h;rfl
 ·have nd:=Fk.nd
  have hu:=hr.units
  obtain ⟨x,dx,lA,lE,lS,as,src,n,ts,sp,h0,t0,m0,rfl,st,hh,ht,hm,hl,q⟩:=h
  refine ⟨_,(@xg _ _ _ (@xj _ _ _ _ _ _ (xk (i:=4) nd rfl (by first | exact Or.inl rfl | exact Or.inr rfl) (@xm _ _ _ _ _ _ _ _ wu (xp (xo rfl) (by rfl) T.b_len PySem.boot_len (@xV _ _ _ (@xX _ _ _ _ _ (pe_fld (pv 0) rfl) xi rfl))) xY)) (@xj _ _ _ _ _ _ (wJ (pe_bm zd zZ za wI (@xw _ _ _ _ _ _ _ (xx rfl) (pe_fld (pv 0) rfl) (pv 1) (λ_ _=>rfl)) (@xV _ _ _ (@xX _ _ _ _ _ (@xm _ _ _ _ _ _ _ _ wQ xY (pv 4)) xi rfl)))) (@xj _ _ _ _ _ _ (wJ (pe_bm zd zZ za wI (@xw _ _ _ _ _ _ _ (xx rfl) (pe_fld (pv 0) rfl) (pv 2) (λ_ _=>rfl)) (@xV _ _ _ (@xX _ _ _ _ _ (@xm _ _ _ _ _ _ _ _ wG (@xm _ _ _ _ _ _ _ _ wQ xY (pv 4)) xY) xi rfl)))) (@xj _ _ _ _ _ _ (ps_fldaug (pv 0) (@wC _ _ _ _ (@xV _ _ _ (@xX _ _ _ _ _ (pv 2) (@xX _ _ _ _ _ (pv 1) xi rfl) rfl))) ip_cat) (@xj _ _ _ _ _ _ (ps_fldaug (pv 0) (@wC _ _ _ _ (@xV _ _ _ (@xX _ _ _ _ _ (pv 3) (@xX _ _ _ _ _ xY xi rfl) rfl))) ip_cat) (@xu _ _ _ (@xl _ _ _ _ (pv 4))))))))),?_⟩
  have line:8000<=sizeLine:=by rw [sizeLine_eq];decide
  have st0:=st.raw
  obtain ⟨lh,hlh⟩:∃ l,as[h0]?=some l:=⟨_,zL (by rw [st.len];exact hh)⟩
  obtain ⟨lt,hlt⟩:∃ l,as[t0]?=some l:=⟨_,zL (by rw [st.len];exact ht)⟩
  have e0:(((endsOf ts).map V.int).length:Int) / 2=(ts.length:Int):=by rw [zA,endsOf_len];omega
  have L8:=arcsTo_len (ts:=ts) (p:=h0) ts.length
  have L9:=arcsTo_len (ts:=ts) (p:=t0) ts.length
  refine (zr rfl ⟨x,_,dx,zr1 rfl ⟨st0.ins,T.Ag,T.n_Stream_ends,rfl,lE,zr rfl ⟨.inl (SqL.of st0.ends),zr2 rfl rfl ⟨⟨by decide,by decide⟩,?_⟩⟩⟩⟩)
  show gName 4 (V.int (((((endsOf ts).map V.int).length:Nat):Int) / 2)) _ _ _
  rw [e0]
  refine (zr rfl ⟨x,_,dx,zr1 rfl ⟨st0.ins,T.Ag,T.n_Stream_arcs,rfl,zr rfl ⟨lA,_,_,V.ref lh,rfl,rfl,SqL.of st0.arcs,wF (by rw [zS,hlh];rfl),.inl ⟨rfl,_,SqL.of (st0.rws _ _ hlh)⟩,zr rfl (zr2 rfl rfl ⟨.inl ⟨by decide,by decide⟩,lh,zr2 rfl rfl ⟨st0.rws _ _ hlh,by rw [zA];omega,?_⟩⟩)⟩⟩⟩)
  have st1:=st0.app (z:=2 * (ts.length:Int)) hlh
  have k1:KeptM (x::lE::lS::as) H (upd H lh (.lst ((arcsTo ts h0 ts.length).map V.int++[V.int (2 * (ts.length:Int))]))):=KeptM.upd (.tail _ (.tail _ (.tail _ (zC hlh))))
  generalize upd H lh _=H1 at st1 k1 ⊢
  refine (zr rfl ⟨x,_,dx,zr1 rfl ⟨st1.ins,T.Ag,T.n_Stream_arcs,rfl,zr rfl ⟨lA,_,_,V.ref lt,rfl,rfl,SqL.of st1.arcs,wF (by rw [zS,hlt];rfl),.inl ⟨rfl,_,SqL.of (st1.rws _ _ hlt)⟩,zr rfl (zr2 rfl rfl ⟨.inl ⟨by decide,by decide⟩,zr2 rfl rfl ⟨lt,zr2 rfl rfl ⟨st1.rws _ _ hlt,by rw [zA,zE];split <;> simp <;> omega,?_⟩⟩⟩)⟩⟩⟩)
  have st2:=st1.app (z:=2 * (ts.length:Int) + 1) hlt
  have k2:KeptM (x::lE::lS::as) H1 (upd H1 lt (.lst ((arcsTo ts t0 ts.length++if h0=t0 then [2 * (ts.length:Int)] else []).map V.int++[V.int (2 * (ts.length:Int) + 1)]))):=KeptM.upd (.tail _ (.tail _ (.tail _ (zC hlt))))
  generalize upd H1 lt _=H2 at st2 k2 ⊢
  have k2:=k1.trans k2
  refine (zr rfl ⟨x,_,dx,zr1 rfl ⟨st2.ins,T.Ag,T.n_Stream_ends,rfl,zr rfl (zr rfl ⟨by show 2<=_;omega,λb hb=>?_⟩)⟩⟩)
  have s3:Same H2 (upd H2 b (.lst [V.int (t0:Int),V.int (h0:Int)])):=xa hb
  have b3:upd H2 b (.lst [V.int (t0:Int),V.int (h0:Int)]) b=some (.lst [V.int (t0:Int),V.int (h0:Int)]):=xW
  generalize upd H2 b _=H3 at s3 b3 ⊢
  have st3:=st2.same s3
  have k3:=k2.trans (Same.keptM s3)
  refine ⟨lE,b,zr2 rfl rfl ⟨st3.ends,b3,by rw [zA,endsOf_len];show _ + 2<=_;omega,?_⟩⟩
  have st4:=st3.setE (es':=endsOf ts++[(t0:Int),(h0:Int)])
  have k4:KeptM (x::lE::lS::as) H3 (upd H3 lE (.lst ((endsOf ts++[(t0:Int),(h0:Int)]).map V.int))):=KeptM.upd (.tail _ (.head _))
  have e4:HO.lst ((endsOf ts).map V.int++[V.int (t0:Int),V.int (h0:Int)])=HO.lst ((endsOf ts++[(t0:Int),(h0:Int)]).map V.int):=by rw [zK];rfl
  rw [e4]
  generalize upd H3 lE _=H4 at st4 k4 ⊢
  have k4:=k3.trans k4
  refine ⟨dx,_,st4.ins,by show 4 < 1000;decide,?_⟩
  have st5:=st4.setX (src':=src)
  have k5:KeptM (x::lE::lS::as) H4 (upd H4 x (.ins a.Aa dx [("source", .int src),("arcs", .ref lA),("ends", .ref lE),("spare", .ref lS)])):=KeptM.upd (.head _)
  show tSeq _ _ _ _ (upd H4 x (.ins a.Aa dx [("source", .int src),("arcs", .ref lA),("ends", .ref lE),("spare", .ref lS)]))
  generalize upd H4 x _=H5 at st5 k5 ⊢
  have k5:=k4.trans k5
  refine (zr rfl ⟨x,_,dx,zr1 rfl ⟨st5.ins,T.Ag,T.n_Stream_spare,rfl,zr rfl ⟨by show 2<=_;omega,λc hc=>?_⟩⟩⟩)
  have s6:Same H5 (upd H5 c (.lst [V.int m0,V.int 0])):=xa hc
  have b6:upd H5 c (.lst [V.int m0,V.int 0]) c=some (.lst [V.int m0,V.int 0]):=xW
  generalize upd H5 c _=H6 at s6 b6 ⊢
  have st6:=st5.same s6
  have k6:=k5.trans (Same.keptM s6)
  have ls:=st.snd.len
  refine ⟨lS,c,zr2 rfl rfl ⟨st6.spr,b6,by rw [zA,ls];show _ + 2<=_;omega,?_⟩⟩
  have st7:=st6.setS (sp':=sp++[m0,0])
  have k7:KeptM (x::lE::lS::as) H6 (upd H6 lS (.lst ((sp++[m0,0]).map V.int))):=KeptM.upd (.tail _ (.tail _ (.head _)))
  have e7:HO.lst (sp.map V.int++[V.int m0,V.int 0])=HO.lst ((sp++[m0,0]).map V.int):=by rw [zK];rfl
  rw [e7]
  generalize upd H6 lS _=H7 at st7 k7 ⊢
  have k7:=k6.trans k7
  refine ⟨dx,_,st7.ins,by show 4 < 1000;decide,?_⟩
  have st8:=st7.setX (src':=src)
  have k8:KeptM (x::lE::lS::as) H7 (upd H7 x (.ins a.Aa dx [("source", .int src),("arcs", .ref lA),("ends", .ref lE),("spare", .ref lS)])):=KeptM.upd (.head _)
  refine (zr rfl ?_)
  refine q _ (k7.trans k8) ⟨?_,st.len,?_,st.snd.snoc (x:=⟨h0,t0,m0⟩) hm,st.sz.1,by rw [zE];show _ + 1<=_;omega⟩
  ·have ef:(λp=>(arcsTo ts p ts.length++if h0=p then [2 * (ts.length:Int)] else [])++if t0=p then [2 * (ts.length:Int) + 1] else [])=λp=>arcsTo (ts++[(⟨h0,t0,m0⟩:Tie)]) p (ts++[(⟨h0,t0,m0⟩:Tie)]).length:=by
    funext p
    rw [arcsTo_end,xC]
    rfl
   rw [<-ef,endsOf_snoc]
   exact st8
  ·intro t h
   rcases zT.mp h with h | h
   ·exact st.tin t h
   ·rw [zF.mp h];exact ⟨hh,ht⟩
theorem Ez:FnScope ["self", "tie"] ["self", "tie"] (defScope DH):=⟨rfl,rfl,rfl,by decide +kernel,rfl,by decide +kernel,by decide +kernel⟩
theorem Hq (T:Tx K mg a t_LAST_TIME t_MOST_WALKERS t_MOST_ROOM t_MOST_MEETINGS t_MOST_MANY) (B:BmAt mg base):FnOk P w K mg base CX0 1 a.AR a.BC ["self", "tie"] (spSentS a.Aa):=by
 refine T.AV.ok Ez (λvs H Q E h=>?_) (λcdv A outer s H vs Q E hr h=>?_)
 ·obtain ⟨_,_,_,_,_,_,_,_,_,_,_,rfl,_⟩:=h;rfl
 ·have nd:=Ez.nd
  have hu:=hr.units
  obtain ⟨x,dx,lA,lE,lS,as,src,n,ts,sp,k,rfl,st,hk,q⟩:=h
  refine ⟨_,(@xg _ _ _ (@xu _ _ _ (@xl _ _ _ _ (@xw _ _ _ _ _ _ _ (xx rfl) (pe_fld' rfl (pv 0) rfl) (@xm _ _ _ _ _ _ _ _ wG (@xm _ _ _ _ _ _ _ _ wQ xY (pv 1)) xY) (λ_ _=>rfl))))),?_⟩
  have line:8000<=sizeLine:=by rw [sizeLine_eq];decide
  have e1:(sp.map V.int)[2 * k + 1]?=some (V.int (at0 sp (2 * k + 1))):=map_at (at0_get (by rw [st.snd.len];omega))
  exact (zr rfl ⟨x,_,dx,zr1 rfl ⟨st.raw.ins,T.Ag,T.n_Stream_spare,rfl,zr rfl (zr2 rfl rfl ⟨.inl ⟨by decide,by decide⟩,zr2 rfl rfl (ixl st.raw.spr (wF (j:=2 * k + 1) e1) q)⟩)⟩⟩)
theorem DC:FnScope ["self", "goal", "came", "points", "place", "point", "arc", "end"] ["self", "goal"] (defScope CB):=⟨rfl,rfl,rfl,by decide +kernel,rfl,by decide +kernel,by decide +kernel⟩
theorem FV (T:Tx K mg a t_LAST_TIME t_MOST_WALKERS t_MOST_ROOM t_MOST_MEETINGS t_MOST_MANY) (B:BmAt mg base):FnOk P w K mg base CX0 1 a.Au a.AZ ["self", "goal"] (spCameS a.Aa):=by
 refine T.Av.ok DC (λvs H Q E h=>?_) (λcdv A outer s H vs Q E hr h=>?_)
 ·obtain ⟨_,_,_,_,_,_,_,_,_,_,_,rfl,_⟩:=h;rfl
 ·have nd:=DC.nd
  have hu:=hr.units
  obtain ⟨x,dx,lA,lE,lS,as,src,n,ts,sp,g,rfl,st,hs,q⟩:=h
  refine ⟨_,(@xg _ _ _ (@xj _ _ _ _ _ _ (xk (i:=2) nd rfl (by first | exact Or.inl rfl | exact Or.inr rfl) (pe_disp (pps_cons (pe_fld (pv 0) rfl) pe_non pps_nil) rfl rfl (by intro h;cases h) (by decide))) (@xj _ _ _ _ _ _ (xk (i:=3) nd rfl (by first | exact Or.inl rfl | exact Or.inr rfl) (@wC _ _ _ _ (@xV _ _ _ (@xX _ _ _ _ _ (pe_fld (pv 0) rfl) xi rfl)))) (@xj _ _ _ _ _ _ (xk (i:=4) nd rfl (by first | exact Or.inl rfl | exact Or.inr rfl) xY) (@xj _ _ _ _ _ _ (@ps_while _ _ _ _ _ _ PassesOwn.never (@PW.pt _ _ _ (@pw_and _ _ _ _ _ _ _ (@xq _ _ _ _ _ _ _ _ op_lt (pv 4) (xp (xo rfl) (by rfl) T.b_len PySem.boot_len (@xV _ _ _ (@xX _ _ _ _ _ (pv 3) xi rfl))) (nomark _)) (@pw_and1 _ _ _ _ (@xq _ _ _ _ _ _ _ _ (op_notInO hu) (pv 1) (pv 2) rfl)))) (@xg _ _ _ (@xj _ _ _ _ _ _ (xk (i:=5) nd rfl (by first | exact Or.inl rfl | exact Or.inr rfl) (@xw _ _ _ _ _ _ _ (xx rfl) (pv 3) (pv 4) (λ_ _=>rfl))) (@xj _ _ _ _ _ _ (ps_aug (i:=4) nd rfl (by first | exact Or.inl rfl | exact Or.inr rfl) xY ip_add) (@xu _ _ _ (wV PassesOwn.never rfl (@wN _ _ _ _ _ rfl (@xw _ _ _ _ _ _ _ (xx rfl) (pe_fld (pv 0) rfl) (pv 5) (λ_ _=>rfl))) (xc (i:=6) nd rfl (by first | exact Or.inl rfl | exact Or.inr rfl)) (@xg _ _ _ (@xj _ _ _ _ _ _ (xk (i:=7) nd rfl (by first | exact Or.inl rfl | exact Or.inr rfl) (@xw _ _ _ _ _ _ _ (xx rfl) (pe_fld (pv 0) rfl) (pv 6) (λ_ _=>rfl))) (@xu _ _ _ (@wA _ _ _ _ _ _ _ _ (@PW.pt _ _ _ (@pw_and _ _ _ _ _ _ _ (@xq _ _ _ _ _ _ _ _ op_gt (@xw _ _ _ _ _ _ _ (xx rfl) (pe_fld' rfl (pv 0) rfl) (pv 6) (λ_ _=>rfl)) xY (nomark _)) (@pw_and1 _ _ _ _ (@xq _ _ _ _ _ _ _ _ (op_notInD hu) (pv 7) (pv 2) rfl)))) (@xg _ _ _ (@xj _ _ _ _ _ _ (ps_dput (Nat.lt_of_le_of_lt (Nat.add_le_add_left (by decide) _) hu) (pv 2) (pv 7) (pv 6) rfl) (@xu _ _ _ (wJ (pe_bm zd zZ za wI (pv 3) (@xV _ _ _ (@xX _ _ _ _ _ (pv 7) xi rfl))))))) xv)))))))))) (@xu _ _ _ (@xl _ _ _ _ (pv 2)))))))),?_⟩
  have line:8000<=sizeLine:=by rw [sizeLine_eq];decide
  have st0:=st.raw
  have n3:=st.sz.1
  have t3:=st.sz.2
  refine λd hd0=>?_
  have s1:Same H (upd H d (.dK [])):=xa hd0
  refine (zr rfl ⟨x,_,dx,zr1 rfl ⟨s1 _ _ st0.ins,T.Ag,T.n_Stream_source,rfl,xW,[(Sum.inl (src:Int),V.non)],rfl,by show 1<=15;decide,?_⟩⟩)
  have s2:Same H (upd (upd H d (.dK [])) d (.dK (treeK [(src,none)]))):=Same.put hd0 s1
  have d2:upd (upd H d (.dK [])) d (.dK (treeK [(src,none)])) d=some (.dK (treeK [(src,none)])):=xW
  show gName 2 (V.ref d) _ (upd (upd H d (.dK [])) d (.dK (treeK [(src,none)]))) _
  generalize upd (upd H d _) d _=H2 at s2 d2 ⊢
  refine (zr rfl ⟨x,_,dx,zr1 rfl ⟨s2 _ _ st0.ins,T.Ag,T.n_Stream_source,rfl,by show 1<=_;omega,λl hl=>?_⟩⟩)
  have c3:Cam34 H (upd H2 l (.lst [V.int (src:Int)])) d l ts sp n src [(src,none)]:=⟨s2.trans (xa hl),hd0,s2.free hl,xZ d2 hl,(xa hl) _ _ d2,xW,tree_one hs⟩
  generalize upd H2 l _=H3 at c3 ⊢
  refine ⟨λm σ H5=>∃ tree,∃ pl:Nat,∃ o1 o2 o3,σ=[some (.ref x),some (oV (g.map λz=>(z:Int))),some (.ref d),some (.ref l),some (.int (pl:Int)),o1,o2,o3]/\Cam34 H H5 d l ts sp n src tree/\pl<=tree.length/\(∀ (i p:Nat),i < pl->(pts tree)[i]?=some p->ClosedAt ts sp (pts tree) p)/\m=n - pl,⟨_,_,0,none,none,none,rfl,c3,zc _,λi p h=>by omega,rfl⟩,?_⟩
  rintro m σ H5 ⟨tree,pl,o1,o2,o3,rfl,c5,hpl,cl5,rfl⟩
  have st5:=st.same c5.sm
  have tl5:=c5.tk.len
  have len5:((pts tree).map λp:Nat=>V.int (p:Int)).length=tree.length:=by unfold pts;rw [zA,zA]
  refine (zr rfl (zr rfl ⟨l,zr rfl ⟨.inl (SqL.of c5.hl),zr2 rfl rfl (zr rfl ?_)⟩⟩))
  by_cases c:pl < tree.length
  ·refine iteB1 (decide_eq_true (by omega)) (zr rfl (zr rfl ⟨d,_,(g.map λz=>(z:Int)),rfl,c5.hd,rfl,zr rfl ?_⟩))
   refine iteAny (λ_=>?_) λhb=>?_
   ·obtain ⟨p,hp⟩:∃ p,(pts tree)[pl]?=some p:=⟨_,zL (by unfold pts;rw [zA];exact c)⟩
    have pn:p < n:=by obtain ⟨y,hy,rfl⟩:=zQ.mp (zC hp);exact c5.tk.ins y hy
    obtain ⟨lp,hlp⟩:∃ r,as[p]?=some r:=⟨_,zL (by rw [st.len];exact pn)⟩
    have pm:=zC hp
    refine ⟨fun σ H5=>∃ tree,∃ o1 o2 o3,σ=[some (.ref x),some (oV (g.map λz=>(z:Int))),some (.ref d),some (.ref l),some (.int ((pl:Int) + 1)),o1,o2,o3]/\Cam34 H H5 d l ts sp n src tree/\pl + 1<=tree.length/\(∀ (i p:Nat),i < pl + 1->(pts tree)[i]?=some p->ClosedAt ts sp (pts tree) p),?_,?_⟩
    ·rintro σ H6 ⟨tree6,p1,p2,p3,rfl,c6,h6,cl6⟩
     exact ⟨n - (pl + 1),by omega,tree6,pl + 1,p1,p2,p3,rfl,c6,h6,cl6,rfl⟩
    refine (zr rfl (zr rfl (ixl c5.hl (wF (by rw [zS,hp];rfl)) (zr rfl (zr2 rfl rfl ?_)))))
    refine (zr rfl ⟨x,_,dx,zr1 rfl ⟨st5.raw.ins,T.Ag,T.n_Stream_arcs,rfl,zr rfl ⟨lA,_,_,V.ref lp,rfl,rfl,SqL.of st5.raw.arcs,wF (by rw [zS,hlp];rfl),lp,rfl,⟨_,SqL.of (st5.raw.rws _ _ hlp)⟩,?_⟩⟩⟩)
    refine wr (K:=K) (a:=lp) (xs:=(arcsTo ts p ts.length).map V.int) (λi σ H6=>∃ tree6,∃ o2 o3,σ=[some (.ref x),some (oV (g.map λz=>(z:Int))),some (.ref d),some (.ref l),some (.int ((pl:Int) + 1)),some (.int (p:Int)),o2,o3]/\Cam34 H H6 d l ts sp n src tree6/\(∃ more,pts tree6=pts tree++more)/\∀ (j b:Nat),j < i->(arcsTo ts p ts.length)[j]?=some (b:Int)->0 < at0 sp b->hd ts b∈pts tree6) ⟨tree,zr1 rfl ⟨c5,⟨[],by rw [zn]⟩,λj b h=>by omega⟩⟩ ?_ ?_ ?_
    ·rintro i σ H6 _ ⟨tree6,o2,o3,rfl,c6,_,_⟩
     exact SqL.of ((st.same c6.sm).raw.rws _ _ hlp)
    ·rintro i z σ H6 hz ⟨tree6,o2,o3,rfl,c6,⟨more,em⟩,cl6⟩
     obtain ⟨y,hy,rfl⟩:=wL hz
     obtain ⟨b,rfl,hb,tb⟩:=(arcsTo_mem (zD _)).mp (zC hy)
     have st6:=(st.same c6.sm).raw
     have tl6:=c6.tk.len
     have nxt:∀ {tree7 H7 o2 o3},Cam34 H H7 d l ts sp n src tree7->(∃ m,pts tree7=pts tree6++m)->(0 < at0 sp b->hd ts b∈pts tree7)->∃ tree8,∃ o2' o3',[some (.ref x),some (oV (g.map λz=>(z:Int))),some (.ref d),some (.ref l),some (.int ((pl:Int) + 1)),some (.int (p:Int)),o2,o3]=[some (.ref x),some (oV (g.map λz=>(z:Int))),some (.ref d),some (.ref l),some (.int ((pl:Int) + 1)),some (.int (p:Int)),o2',o3']/\Cam34 H H7 d l ts sp n src tree8/\(∃ more,pts tree8=pts tree++more)/\∀ (j b:Nat),j < i + 1->(arcsTo ts p ts.length)[j]?=some (b:Int)->0 < at0 sp b->hd ts b∈pts tree8:=by
      rintro tree7 H7 o2 o3 c7 ⟨m7,e7⟩ h7
      refine ⟨tree7,o2,o3,rfl,c7,⟨more++m7,by rw [e7,em,xC]⟩,λj b2 hj hb2 h0=>?_⟩
      by_cases cj:j < i
      ·rw [e7];exact zx _ (cl6 j b2 cj hb2 h0)
      ·obtain rfl:j=i:=by omega
       rw [hy] at hb2
       obtain rfl:b=b2:=Int.ofNat.inj (Option.some.inj hb2)
       exact h7 h0
     refine (zr rfl ⟨x,_,dx,zr1 rfl ⟨st6.ins,T.Ag,T.n_Stream_ends,rfl,zr rfl (ixl st6.ends (wF (map_at (endsO_at hb))) ?_)⟩⟩)
     refine (zr rfl ⟨x,_,dx,zr1 rfl ⟨st6.ins,T.Ag,T.n_Stream_spare,rfl,zr rfl (ixl st6.spr (wF (map_at (at0_get (by rw [st.snd.len];exact hb)))) (zr2 rfl rfl (zr rfl ?_)))⟩⟩)
     by_cases c1:0 < at0 sp b
     ·have eg:=DGet.k (k:=Sum.inl ((hd ts b:Nat):Int)) c6.hd
      refine iteB1 (decide_eq_true c1) (zr rfl (zr rfl ⟨d,zr rfl ⟨eg,zr rfl ?_⟩⟩))
      rw [tree_some c6.tk.nd]
      by_cases c2:hd ts b∈pts tree6
      ·exact iteB0 (by rw [decide_eq_true c2];rfl) (nxt c6 ⟨[],by rw [zn]⟩ λ_=>c2)
      ·refine iteB1 (by rw [decide_eq_false c2];rfl) ?_
       have pt6:tl ts b∈pts tree6:=by rw [tb,em];exact zx _ pm
       have tk7:=c6.tk.snoc hb c2 (hd_lt st.tin hb) rfl c1 pt6
       refine (zr rfl (zr rfl (zr rfl ⟨d,zr rfl ⟨DPut.k (k:=Sum.inl ((hd ts b:Nat):Int)) c6.hd (by unfold treeK;rw [zA];omega),?_⟩⟩)))
       rw [tree_put c2]
       have hl7:upd H6 d (.dK (treeK (tree6++[(hd ts b,some b)]))) l=some (.lst ((pts tree6).map λp:Nat=>V.int (p:Int))):=by rw [xb (Ne.symm c6.ne)];exact c6.hl
       refine (zr rfl ⟨.inl ⟨rfl,_,SqL.of hl7⟩,zr rfl ⟨l,zr2 rfl rfl ⟨hl7,by unfold pts;rw [zA,zA];omega,?_⟩⟩⟩)
       exact nxt (c6.add tk7) ⟨[hd ts b],pts_snoc⟩ λ_=>by rw [pts_snoc];exact zP _ (.head _)
     ·exact iteB0 (decide_eq_false c1) (iteB0 rfl (nxt c6 ⟨[],by rw [zn]⟩ λh=>absurd h c1))
    ·rintro σ H6 ⟨tree6,o2,o3,rfl,c6,⟨more,em⟩,cl6⟩
     have l6:tree6.length=(pts tree6).length:=(zA ..).symm
     have l5:tree.length=(pts tree).length:=(zA ..).symm
     refine ⟨tree6,_,zr1 rfl ⟨c6,by rw [l6,em,zE,<- l5];omega,λi p2 hi hp2=>?_⟩⟩
     rw [em,zV (by omega)] at hp2
     by_cases ci:i < pl
     ·exact (cl5 i p2 ci hp2).more λz hz=>by rw [em];exact zx _ hz
     ·obtain rfl:i=pl:=by omega
      obtain rfl:p=p2:=by rw [hp] at hp2;exact Option.some.inj hp2
      intro b hb tb h0
      obtain ⟨j,hj⟩:=zy ((arcsTo_mem (z:=(b:Int)) (zD _)).mpr ⟨b,rfl,hb,tb⟩)
      exact cl6 j b (by rw [zA];exact (zB.mp hj).1) hj h0
   ·refine (zr rfl (q d tree H5 c5.sm c5.fd c5.hd c5.tk λh2=>?_))
    cases g with
    | none=>cases hb
    | some z=>
     have hb:(!(valV (treeK tree) (Sum.inl (z:Int))).isSome)=false:=hb
     rw [tree_some c5.tk.nd,decide_eq_false (h2 z rfl)] at hb
     cases hb
  ·refine iteB0 (decide_eq_false (by omega)) (zr rfl (q d tree H5 c5.sm c5.fd c5.hd c5.tk λ_ p hp=>?_))
   obtain ⟨i,hi⟩:=zy hp
   have:=(zB.mp hi).1
   have lp:(pts tree).length=tree.length:=zA ..
   exact cl5 i p (by omega) hi
theorem C5:FnScope ["self", "came", "goal", "way", "point", "arc", "most"] ["self", "came", "goal"] (defScope wS):=⟨rfl,rfl,rfl,by decide +kernel,rfl,by decide +kernel,by decide +kernel⟩
theorem EI (T:Tx K mg a t_LAST_TIME t_MOST_WALKERS t_MOST_ROOM t_MOST_MEETINGS t_MOST_MANY) (B:BmAt mg base):FnOk P w K mg base CX0 1 a.Al a.Ax ["self", "came", "goal"] (spAlongS a.Aa):=by
 refine T.Am.ok C5 (λvs H Q E h=>?_) (λcdv A outer s H vs Q E hr h=>?_)
 ·obtain ⟨_,_,_,_,_,_,_,_,_,_,_,_,_,rfl,_⟩:=h;rfl
 ·have nd:=C5.nd
  have hu:=hr.units
  obtain ⟨x,dx,lA,lE,lS,as,src,n,ts,sp,d,tree,g,rfl,st,hd0,tk,hg,ng,q⟩:=h
  refine ⟨_,(@xg _ _ _ (@xj _ _ _ _ _ _ (xk (i:=3) nd rfl (by first | exact Or.inl rfl | exact Or.inr rfl) (@wC _ _ _ _ wK)) (@xj _ _ _ _ _ _ (xk (i:=4) nd rfl (by first | exact Or.inl rfl | exact Or.inr rfl) (pv 2)) (@xj _ _ _ _ _ _ (@ps_while _ _ _ _ _ _ PassesOwn.never (@xq _ _ _ _ _ _ _ _ op_ne (pv 4) (pe_fld (pv 0) rfl) (nomark _)) (@xg _ _ _ (@xj _ _ _ _ _ _ (xk (i:=5) nd rfl (by first | exact Or.inl rfl | exact Or.inr rfl) (pe_dget (Nat.lt_of_le_of_lt (Nat.add_le_add_left (by decide) _) hu) (pv 1) (pv 4) (λ_ _=>rfl))) (@xj _ _ _ _ _ _ (wJ (pe_bm zd zZ za wI (pv 3) (@xV _ _ _ (@xX _ _ _ _ _ (pv 5) xi rfl)))) (@xu _ _ _ (xk (i:=4) nd rfl (by first | exact Or.inl rfl | exact Or.inr rfl) (@xw _ _ _ _ _ _ _ (xx rfl) (pe_fld (pv 0) rfl) (@xm _ _ _ _ _ _ _ _ op_xor (pv 5) xY) (λ_ _=>rfl)))))))) (@xj _ _ _ _ _ _ (xk (i:=6) nd rfl (by first | exact Or.inl rfl | exact Or.inr rfl) (xp (call_minL rfl) (by rfl) T.b_min yi (@xV _ _ _ (@xX _ _ _ _ _ (pe_comp (own:=["arc"]) (caps:=[0]) rfl (show CompScope ["arc"] [0] ["self", "came", "goal", "way", "point", "arc", "most"] (defScope wS) _ from ⟨rfl,by decide +kernel,by decide +kernel,by decide +kernel,by decide +kernel⟩) (@wN _ _ _ _ _ rfl (pv 3)) (λ_ _ _ _=>(xc (i:=0) (show List.Nodup (["arc", "self"]:List Str) from by decide +kernel) rfl (by first | exact Or.inl rfl | exact Or.inr rfl))) (λ_ _ _ _=>pts_nil) (λ_ _ _ _=>(@xw _ _ _ _ _ _ _ (xx rfl) (pe_fld' rfl (pv 1) rfl) (pv 0) (λ_ _=>rfl)))) xi rfl)))) (@xj _ _ _ _ _ _ (wV PassesOwn.never rfl (@wN _ _ _ _ _ rfl (pv 3)) (xc (i:=5) nd rfl (by first | exact Or.inl rfl | exact Or.inr rfl)) (@xg _ _ _ (@xj _ _ _ _ _ _ (ps_augS (pe_fld' rfl (pv 0) rfl) (pv 5) (get_list rfl) (pv 6) ip_sub set_list) (@xu _ _ _ (ps_augS (pe_fld' rfl (pv 0) rfl) (@xm _ _ _ _ _ _ _ _ op_xor (pv 5) xY) (get_list rfl) (pv 6) ip_add set_list))))) (@xu _ _ _ (@xl _ _ _ _ (pv 6))))))))),?_⟩
  have line:8000<=sizeLine:=by rw [sizeLine_eq];decide
  have n3:=st.sz.1
  have t3:=st.sz.2
  have tlen:=tk.len
  obtain ⟨yg,hyg,rfl⟩:=zQ.mp hg
  obtain ⟨ig,hig⟩:=zy hyg
  have ilt:=(zB.mp hig).1
  refine ⟨by show 0<=_;omega,λl hl=>?_⟩
  have s1:Same H (upd H l (.lst (([]:List Nat).map λa:Nat=>V.int (a:Int)))):=xa hl
  have l1:upd H l (.lst (([]:List Nat).map λa:Nat=>V.int (a:Int))) l=some (.lst (([]:List Nat).map λa:Nat=>V.int (a:Int))):=xW
  show gName 3 (V.ref l) _ (upd H l (.lst (([]:List Nat).map λa:Nat=>V.int (a:Int)))) _
  generalize upd H l _=H1 at s1 l1 ⊢
  refine (zr rfl ?_)
  refine ⟨λm σ H5=>∃ (w0:List Nat) (c i:Nat) (o:Option Nat) (o1:Option V),σ=[some (.ref x),some (.ref d),some (.int (yg.1:Int)),some (.ref l),some (.int (c:Int)),o1,none]/\Same H H5/\H5 l=some (.lst (w0.map λa:Nat=>V.int (a:Int)))/\BackW ts yg.1 w0 c/\tree[i]?=some (c,o)/\(∀ a∈w0,a < 2 * ts.length/\0 < at0 sp a/\∃ j y,i < j/\tree[j]?=some (y,some a))/\w0.Nodup/\w0.length + i < tree.length/\m=i,⟨_,[],yg.1,ig,yg.2,none,rfl,s1,l1,.nil,hig,(λ_ h=>by cases h),.nil,by show 0 + ig < _;omega,rfl⟩,?_⟩
  rintro i σ H5 ⟨w0,c,i9,o,o1,rfl,s5,l5,bw,hi,hw,nd0,wl,rfl⟩
  have st5:=(st.same s5).raw
  refine (zr rfl (zr rfl ⟨x,_,dx,zr1 rfl ⟨st5.ins,T.Ag,T.n_Stream_source,rfl,rfl,zr rfl ?_⟩⟩))
  refine iteAny (λhc=>?_) λhc=>?_
  ·have hc:c≠src:=λe=>by subst e;rw [decide_eq_true rfl] at hc;cases hc
   have i0:0 < i:=by
    rcases Nat.eq_zero_or_pos i with z | z
    ·subst z;rw [tk.root] at hi;cases hi;exact absurd rfl hc
    ·exact z
   obtain ⟨b,e1,hb,e2,b0,j,y,hj,hjy,ey⟩:=tk.arc i _ hi i0
   have e1:o=some b:=e1
   subst e1
   have e2:hd ts b=c:=e2
   have eg:DGet H5 d (V.int (c:Int)) (some (V.int (b:Int))):=by
    have:=DGet.k (k:=Sum.inl (c:Int)) (s5 _ _ hd0)
    rw [tree_got tk.nd hi] at this;exact this
   have nb:b ∉ w0:=λh=>by
    obtain ⟨_,_,j2,y2,hj2,hy2⟩:=hw b h
    obtain ⟨b2,f1,_,f2,_⟩:=tk.arc j2 _ hy2 (by omega)
    have f1:some b=some b2:=f1
    cases f1
    have f2:hd ts b=y2:=f2
    have:=nod_at34 tk.nd (i:=i) (j:=j2) (a:=c) (by unfold pts;rw [zS,hi];rfl) (by unfold pts;rw [zS,hy2];show some y2=_;rw [<-f2,e2])
    omega
   refine ⟨fun σ H6=>∃ (w0:List Nat) (c j:Nat) (o:Option Nat) (o1:Option V),σ=[some (.ref x),some (.ref d),some (.int (yg.1:Int)),some (.ref l),some (.int (c:Int)),o1,none]/\Same H H6/\H6 l=some (.lst (w0.map λa:Nat=>V.int (a:Int)))/\BackW ts yg.1 w0 c/\tree[j]?=some (c,o)/\(∀ a∈w0,a < 2 * ts.length/\0 < at0 sp a/\∃ j' y,j < j'/\tree[j']?=some (y,some a))/\w0.Nodup/\w0.length + j < tree.length/\j < i,?_,?_⟩
   ·rintro σ H6 ⟨w6,c6,j6,o6,p6,rfl,h1,h2,h3,h4,h5,h6,h7,h8⟩
    exact ⟨j6,h8,w6,c6,j6,o6,p6,rfl,h1,h2,h3,h4,h5,h6,h7,rfl⟩
   refine (zr rfl (zr rfl ⟨d,zr rfl ⟨eg,?_⟩⟩))
   refine (zr rfl ⟨.inl ⟨rfl,_,SqL.of l5⟩,zr rfl ⟨l,zr2 rfl rfl ⟨l5,by rw [zA];omega,?_⟩⟩⟩)
   have s6:Same H (upd H5 l (.lst ((w0.map λa:Nat=>V.int (a:Int))++[V.int (b:Int)]))):=Same.put hl s5
   have l6:upd H5 l (.lst ((w0.map λa:Nat=>V.int (a:Int))++[V.int (b:Int)])) l=some (.lst ((w0++[b]).map λa:Nat=>V.int (a:Int))):=by rw [xW,zK];rfl
   generalize upd H5 l _=H6 at s6 l6 ⊢
   have st6:=(st.same s6).raw
   refine (zr rfl ⟨x,_,dx,zr1 rfl ⟨st6.ins,T.Ag,T.n_Stream_ends,rfl,zr rfl (zr2 rfl rfl ⟨lE,_,_,V.int ((tl ts b:Nat):Int),rfl,rfl,SqL.of st6.ends,by rw [xor_one];exact wF (map_at (endsO_at (flip_lt hb))),?_⟩)⟩⟩)
   refine ⟨w0++[b],tl ts b,j,y.2,zr rfl ⟨s6,l6,.snoc (by rw [e2];exact bw),by rw [<-ey];exact hjy,λz hz=>?_,?_,by rw [zE];show _ + 1 + j < _;omega,hj⟩⟩
   ·rcases zT.mp hz with h | h
    ·obtain ⟨h1,h2,j',y',h3,h4⟩:=hw z h
     exact ⟨h1,h2,j',y',by omega,h4⟩
    ·rw [zF.mp h];exact ⟨hb,b0,i,c,hj,hi⟩
   ·exact List.nodup_append.mpr ⟨nd0,ze.mpr ⟨by simp,.nil⟩,λz hz c hc=>by rw [zF.mp hc];exact λe=>nb (e ▸ hz)⟩
  ·have hc:c=src:=by
    by_cases e:c=src
    ·exact e
    ·exfalso
     rw [decide_eq_false (λz=>e (by injection z with z;exact Int.ofNat.inj z))] at hc;cases hc
   subst hc
   have w1:0 < w0.length:=bw.pos ng
   refine (zr rfl ⟨l,rfl,⟨_,SqL.of l5⟩,?_⟩)
   refine comp_listB (K:=K) (a:=l) (xs:=w0.map λa:Nat=>V.int (a:Int)) (λi τ acc H6=>(∃ t0,τ=[t0,some (.ref x)])/\acc=((w0.take i).map λa=>V.int (at0 sp a))/\H6=H5) ⟨⟨_,rfl⟩,rfl,rfl⟩ (by rw [zA];omega) ?_ ?_ ?_
   ·rintro i τ acc H6 ⟨_,rfl,rfl⟩
    exact ⟨by rw [zA,zX];omega,SqL.of l5⟩
   ·rintro i z τ acc H6 C hz ⟨⟨t0,rfl⟩,rfl,rfl⟩ hC
    obtain ⟨b,hb,rfl⟩:=wL hz
    have hb2:=hw b (zC hb)
    refine (zr rfl ⟨x,_,dx,zr1 rfl ⟨st5.ins,T.Ag,T.n_Stream_spare,rfl,zr rfl (ixl st5.spr (wF (map_at (at0_get (by rw [st.snd.len];exact hb2.1)))) ?_)⟩⟩)
    exact hC _ _ _ ⟨⟨_,rfl⟩,by rw [yq,hb,zK];rfl,rfl⟩
   ·rintro τ acc H6 ⟨_,rfl,rfl⟩ lm hm
    have eL:((w0.take (w0.map λa:Nat=>V.int (a:Int)).length).map λa=>V.int (at0 sp a))=List.map V.int (w0.map (at0 sp)):=by rw [zA,zu,yA];rfl
    rw [eL]
    have s6:=s5.trans (xa (o:=HO.lst (List.map V.int (w0.map (at0 sp)))) hm)
    have l6:=(xa (o:=HO.lst (List.map V.int (w0.map (at0 sp)))) hm) _ _ l5
    refine ⟨lm,zr rfl ⟨SqL.of xW,by rw [zA];exact w1,λM hM hle=>?_⟩⟩
    generalize upd H6 lm _=H7 at s6 l6 ⊢
    obtain ⟨bM,hbM,rfl⟩:=zQ.mp hM
    have M0:=(hw bM hbM).2.1
    have wle:∀ z∈w0,z < 2 * ts.length/\at0 sp bM<=at0 sp z:=λz hz=>⟨(hw z hz).1,hle _ (zQ.mpr ⟨z,hz,rfl⟩)⟩
    refine (zr rfl ⟨l,rfl,⟨_,SqL.of l6⟩,?_⟩)
    refine wr (K:=K) (a:=l) (xs:=w0.map λa:Nat=>V.int (a:Int)) (λi σ H8=>(∃ o5,σ=[some (.ref x),some (.ref d),some (.int (yg.1:Int)),some (.ref l),some (.int (c:Int)),o5,some (.int (at0 sp bM))])/\KeptM [lS] H H8/\H8 l=some (.lst (w0.map λa:Nat=>V.int (a:Int)))/\SRaw a.Aa H8 x dx lA lE lS as (c:Int) (λp=>arcsTo ts p ts.length) (endsOf ts) (bumpAll sp (w0.take i) (at0 sp bM))) ⟨⟨_,rfl⟩,Same.keptM s6,l6,(st.same s6).raw⟩ ?_ ?_ ?_
    ·rintro i σ H8 _ ⟨_,_,l8,_⟩
     exact SqL.of l8
    ·rintro i z σ H8 hz ⟨⟨o5,rfl⟩,k8,l8,st8⟩
     obtain ⟨b,hb,rfl⟩:=wL hz
     have hb2:=(hw b (zC hb)).1
     have hl8:(bumpAll sp (w0.take i) (at0 sp bM)).length=2 * ts.length:=by rw [bumpAll_len];exact st.snd.len
     have lne:l≠lS:=Ne.symm (xZ st.raw.spr hl)
     have eT:w0.take (i + 1)=w0.take i++[b]:=by rw [yq,hb];rfl
     have eB:bumpAll sp (w0.take (i + 1)) (at0 sp bM)=bump (bumpAll sp (w0.take i) (at0 sp bM)) b (at0 sp bM):=by rw [eT,bumpAll_snoc]
     rw [eB]
     generalize bumpAll sp (w0.take i) (at0 sp bM)=sq at st8 hl8 ⊢
     refine (zr rfl ⟨x,_,dx,zr1 rfl ⟨st8.ins,T.Ag,T.n_Stream_spare,rfl,zr rfl ⟨lS,_,_,b,rfl,rfl,SqL.of st8.spr,map_at (at0_get (by rw [hl8];exact hb2)),zr rfl (zr2 rfl rfl ⟨lS,_,zr2 rfl rfl ⟨st8.spr,ixN_nat (by rw [zA,hl8];exact hb2),?_⟩⟩)⟩⟩⟩)
     rw [map_setI]
     have st9:=st8.setS (sp':=sq.set b (at0 sq b - at0 sp bM))
     have k9:KeptM [lS] H8 (upd H8 lS (.lst ((sq.set b (at0 sq b - at0 sp bM)).map V.int))):=KeptM.upd (.head _)
     have l9:upd H8 lS (.lst ((sq.set b (at0 sq b - at0 sp bM)).map V.int)) l=some (.lst (w0.map λa:Nat=>V.int (a:Int))):=by rw [xb lne];exact l8
     generalize upd H8 lS _=H9 at st9 k9 l9 ⊢
     have hl9:(sq.set b (at0 sq b - at0 sp bM)).length=2 * ts.length:=by rw [xO];exact hl8
     unfold bump
     generalize sq.set b (at0 sq b - at0 sp bM)=sr at st9 hl9 ⊢
     refine (zr rfl ⟨x,_,dx,zr1 rfl ⟨st9.ins,T.Ag,T.n_Stream_spare,rfl,zr rfl (zr2 rfl rfl ⟨lS,_,_,flip b,rfl,congrArg V.int (xor_one b),SqL.of st9.spr,map_at (at0_get (by rw [hl9];exact flip_lt hb2)),zr rfl (zr2 rfl rfl ⟨lS,_,_,flip b,rfl,rfl,st9.spr,by rw [xor_one];exact ixN_nat (by rw [zA,hl9];exact flip_lt hb2),?_⟩)⟩)⟩⟩)
     rw [map_setI]
     exact ⟨⟨_,rfl⟩,(k8.trans k9).trans (KeptM.upd (.head _)),by rw [xb lne];exact l9,st9.setS⟩
    ·rintro σ H8 ⟨⟨o5,rfl⟩,k8,l8,st8⟩
     rw [zA,zu] at st8
     exact (zr rfl (q _ w0 _ M0 bw wle nd0 k8 ⟨st8,st.len,st.tin,st.snd.way (Int.le_of_lt M0) wle nd0,st.sz⟩))
theorem EA:FnScope ["self", "source", "goal", "total", "came"] ["self", "source", "goal"] (defScope DI):=⟨rfl,rfl,rfl,by decide +kernel,rfl,by decide +kernel,by decide +kernel⟩
theorem Hr (T:Tx K mg a t_LAST_TIME t_MOST_WALKERS t_MOST_ROOM t_MOST_MEETINGS t_MOST_MANY) (B:BmAt mg base):FnOk P w K mg base CX0 2 a.AT a.BD ["self", "source", "goal"] (spSendS a.Aa):=by
 have D2:=@FV P w _ _ base _ _ _ _ _ _ T B
 have Ff:=@EI P w _ _ base _ _ _ _ _ _ T B
 refine T.AW.ok EA (λvs H Q E h=>?_) (λcdv A outer s H vs Q E hr h=>?_)
 ·obtain ⟨_,_,_,_,_,_,_,_,_,_,_,_,rfl,_⟩:=h;rfl
 ·have nd:=EA.nd
  have hu:=hr.units
  obtain ⟨x,dx,lA,lE,lS,as,src0,n,ts,sp,s0,g,rfl,st,hs,hg,ne,q⟩:=h
  refine ⟨_,(@xg _ _ _ (@xj _ _ _ _ _ _ (ps_fld (pv 0) (pv 1) rfl) (@xj _ _ _ _ _ _ (xk (i:=3) nd rfl (by first | exact Or.inl rfl | exact Or.inr rfl) xY) (@xj _ _ _ _ _ _ (xk (i:=4) nd rfl (by first | exact Or.inl rfl | exact Or.inr rfl) (pe_meth (pv 0) T.Ag T.DY D2 (hr.mono (by decide)) T.DW .nil pass0 (@xV _ _ _ (@xX _ _ _ _ _ (pv 2) xi rfl)))) (@xj _ _ _ _ _ _ (@ps_while _ _ _ _ _ _ PassesOwn.never (@xq _ _ _ _ _ _ _ _ (op_inD hu) (pv 2) (pv 4) rfl) (@xg _ _ _ (@xj _ _ _ _ _ _ (ps_aug (i:=3) nd rfl (by first | exact Or.inl rfl | exact Or.inr rfl) (pe_meth (pv 0) T.Ag T.Fe Ff (hr.mono (by decide)) T.Fb .nil pass0 (@xV _ _ _ (@xX _ _ _ _ _ (pv 4) (@xX _ _ _ _ _ (pv 2) xi rfl) rfl))) ip_add) (@xu _ _ _ (xk (i:=4) nd rfl (by first | exact Or.inl rfl | exact Or.inr rfl) (pe_meth (pv 0) T.Ag T.DY D2 (hr.mono (by decide)) T.DW .nil pass0 (@xV _ _ _ (@xX _ _ _ _ _ (pv 2) xi rfl)))))))) (@xu _ _ _ (@xl _ _ _ _ (pv 3)))))))),?_⟩
  have line:8000<=sizeLine:=by rw [sizeLine_eq];decide
  have st0:=st.raw
  refine (zr rfl (zr rfl ⟨x,_,dx,zr rfl ⟨st0.ins,T.Ag,T.n_Stream_source,by show 4 < 1000;decide,?_⟩⟩))
  have st1:=st0.setX (src':=(s0:Int))
  have k1:KeptM [x,lS] H (upd H x (.ins a.Aa dx [("source", .int (s0:Int)),("arcs", .ref lA),("ends", .ref lE),("spare", .ref lS)])):=KeptM.upd (.head _)
  show tSeq _ _ _ _ (upd H x (.ins a.Aa dx [("source", .int (s0:Int)),("arcs", .ref lA),("ends", .ref lE),("spare", .ref lS)]))
  generalize upd H x _=H1 at st1 k1 ⊢
  have st2:SAt a.Aa H1 x dx lA lE lS as (s0:Int) n ts sp:=⟨st1,st.len,st.tin,st.snd,st.sz⟩
  refine (zr rfl ⟨x,dx,zr rfl ⟨st1.ins,rfl,zr rfl ⟨x,dx,lA,lE,lS,as,s0,n,ts,sp,some g,rfl,st2,hs,λd tree H2 s2 fd h2 tk cl=>?_⟩⟩⟩)
  refine ⟨λm σ H5=>∃ tot sp' d tree,σ=[some (.ref x),some (.int (s0:Int)),some (.int (g:Int)),some (.int tot),some (.ref d)]/\0<=tot/\KeptM [x,lS] H H5/\SAt a.Aa H5 x dx lA lE lS as (s0:Int) n ts sp'/\H5 d=some (.dK (treeK tree))/\TreeOk ts sp' n s0 tree/\(g ∉ pts tree->∀ p∈pts tree,ClosedAt ts sp' (pts tree) p)/\(∀ p,net ts sp' p ts.length=net ts sp p ts.length + tot * ((if g=p then 1 else 0) - (if s0=p then 1 else 0)))/\m=(cap ts ts.length - net ts sp' g ts.length).toNat,⟨_,0,sp,d,tree,rfl,zq _,k1.trans (Same.keptM s2),st2.same s2,h2,tk,λh=>cl λz e=>by cases e;exact h,λp=>by rw [Int.zero_mul,Int.add_zero],rfl⟩,?_⟩
  rintro m σ H5 ⟨tot,sp',d5,tree5,rfl,t0,k5,st5,h5,tk5,cl5,nt5,rfl⟩
  have eg:=DGet.k (k:=Sum.inl (g:Int)) h5
  refine (zr rfl (zr rfl ⟨d5,zr rfl ⟨eg,zr rfl ?_⟩⟩))
  rw [tree_some tk5.nd]
  by_cases c:g∈pts tree5
  ·refine iteB1 (decide_eq_true c) ⟨fun σ H6=>∃ m6 w6 d6 tree6,σ=[some (.ref x),some (.int (s0:Int)),some (.int (g:Int)),some (.int (tot + m6)),some (.ref d6)]/\0 < m6/\BackW ts g w6 s0/\(∀ a∈w6,a < 2 * ts.length/\m6<=at0 sp' a)/\w6.Nodup/\KeptM [x,lS] H H6/\SAt a.Aa H6 x dx lA lE lS as (s0:Int) n ts (bumpAll sp' w6 m6)/\H6 d6=some (.dK (treeK tree6))/\TreeOk ts (bumpAll sp' w6 m6) n s0 tree6/\(g ∉ pts tree6->∀ p∈pts tree6,ClosedAt ts (bumpAll sp' w6 m6) (pts tree6) p),?_,?_⟩
   ·rintro σ H6 ⟨m6,w6,d6,tree6,rfl,m0,bw,hw,nd,k6,st6,h6,tk6,cl6⟩
    have nt6:∀ p,net ts (bumpAll sp' w6 m6) p ts.length=net ts sp p ts.length + (tot + m6) * ((if g=p then 1 else 0) - (if s0=p then 1 else 0)):=λp=>by
     rw [net_way st5.snd.len bw λa h=>(hw a h).1,nt5 p,Int.add_mul];omega
    have e6:net ts (bumpAll sp' w6 m6) g ts.length=net ts sp' g ts.length + m6:=by
     rw [net_way st5.snd.len bw λa h=>(hw a h).1,if_pos rfl,if_neg ne];omega
    have cp:=net_cap st6.snd g _ (zD _)
    exact ⟨_,by rw [e6] at cp ⊢;omega,tot + m6,_,d6,tree6,rfl,by omega,k6,st6,h6,tk6,cl6,nt6,rfl⟩
   ·refine (zr rfl (zr rfl ⟨x,dx,zr rfl ⟨st5.raw.ins,rfl,zr rfl (zr rfl ⟨x,dx,lA,lE,lS,as,s0,n,ts,sp',d5,tree5,g,rfl,st5,h5,tk5,c,Ne.symm ne,λm6 w6 H6 m0 bw hw nd k6 st6=>?_⟩)⟩⟩))
    refine (zr2 rfl rfl (zr rfl ⟨x,dx,zr rfl ⟨st6.raw.ins,rfl,zr rfl ⟨x,dx,lA,lE,lS,as,s0,n,ts,_,some g,rfl,st6,hs,λd7 tree7 H7 s7 fd7 h7 tk7 cl7=>?_⟩⟩⟩))
    exact ⟨m6,w6,d7,tree7,rfl,m0,bw,hw,nd,k5.trans ((k6.sub λz h=>by rw [zF.mp h];exact .tail _ (.head _)).trans (Same.keptM s7)),st6.same s7,h7,tk7,λh=>cl7 λz e=>by cases e;exact h⟩
  ·refine iteB0 (decide_eq_false c) (zr rfl (q tot sp' tree5 _ k5 st5 t0 nt5 tk5 c (cl5 c)))
theorem K4 (T:Tx K mg a t_LAST_TIME t_MOST_WALKERS t_MOST_ROOM t_MOST_MEETINGS t_MOST_MANY) (B:BmAt mg base):FnOk P w K mg base CX0 1 a.AU a.BE ["self"] (spNever):=⟨λ_ _ _ _ h=>h.elim,λ_ _ _ _ _ _ _ _ _ _ _ _ _ h=>h.elim⟩
theorem FM:FnScope ["book", "thing", "sender", "since", "wish", "last"] ["book", "thing"] (defScope ED):=⟨rfl,rfl,rfl,by decide +kernel,rfl,by decide +kernel,by decide +kernel⟩
theorem FS (T:Tx K mg a t_LAST_TIME t_MOST_WALKERS t_MOST_ROOM t_MOST_MEETINGS t_MOST_MANY) (B:BmAt mg base):FnOk P w K mg base CX0 4 a.Bq a.Ck ["book", "thing"] (spIsLetter):=by
 have IH:=@JW P w _ _ base _ _ _ _ _ _ T B
 have GU:=@IL P w _ _ base _ _ _ _ _ _ T B
 refine T.BU.ok FM (λvs H Q E h=>?_) (λcdv A outer s H vs Q E hr h=>?_)
 ·obtain ⟨b,x,r,_,_,_,_,rfl,_⟩:=h;rfl
 ·have nd:=FM.nd
  have hu:=hr.units
  obtain ⟨b,x,r,rooms,tr,tm,ps,rfl,hb,th,q⟩:=h
  refine ⟨_,(@xg _ _ _ (@xj _ _ _ _ _ _ (@wA _ _ _ _ _ _ _ _ (@PW.pt _ _ _ (@pw_or _ _ _ _ _ _ _ (@wY _ _ _ _ (wT (xp (wb) (by rfl) T.b_isinstance zw (@xV _ _ _ (@xX _ _ _ _ _ (pv 1) (@xX _ _ _ _ _ (pe_bltn (v:=V.ty "tuple") rfl T.b_tuple yO rfl) xi rfl) rfl))))) (@pw_or1 _ _ _ _ (@xq _ _ _ _ _ _ _ _ op_ne (xp (xo rfl) (by rfl) T.b_len PySem.boot_len (@xV _ _ _ (@xX _ _ _ _ _ (pv 1) xi rfl))) xY (nomark _))))) (@xg _ _ _ (@xu _ _ _ (@xl _ _ _ _ pe_bl))) xv) (@xj _ _ _ _ _ _ (wU (pv 1) (wD (n:=4) rfl rfl (xf (xc (i:=2) nd rfl (by first | exact Or.inl rfl | exact Or.inr rfl)) (xf (xc (i:=3) nd rfl (by first | exact Or.inl rfl | exact Or.inr rfl)) (xf (xc (i:=4) nd rfl (by first | exact Or.inl rfl | exact Or.inr rfl)) (xf (xc (i:=5) nd rfl (by first | exact Or.inl rfl | exact Or.inr rfl)) wB)))))) (@xu _ _ _ (@xl _ _ _ _ (@pe_and _ _ _ _ _ _ _ (xh GU (hr.mono (by decide)) rfl T.GL T.GO T.GR .nil pass0 (@xV _ _ _ (@xX _ _ _ _ _ (pv 0) (@xX _ _ _ _ _ (pv 2) xi rfl) rfl))) (@pe_and _ _ _ _ _ _ _ (xh IH (hr.mono (by decide)) rfl T.IA T.IC T.IE .nil pass0 (@xV _ _ _ (@xX _ _ _ _ _ (pv 3) xi rfl))) (@pe_and _ _ _ _ _ _ _ (xh GU (hr.mono (by decide)) rfl T.GL T.GO T.GR .nil pass0 (@xV _ _ _ (@xX _ _ _ _ _ (pv 0) (@xX _ _ _ _ _ (pv 4) xi rfl) rfl))) (@pe_one _ _ _ _ _ (xh IH (hr.mono (by decide)) rfl T.IA T.IC T.IE .nil pass0 (@xV _ _ _ (@xX _ _ _ _ _ (pv 5) xi rfl)))))))))))),?_⟩
  rcases th with ⟨t,ht,nt,rfl⟩ | ⟨l,xs,rfl,hl,hx,rfl⟩
  ·refine (zr rfl ⟨x,t, "tuple", rfl,ht,.inr (.inr (.inr rfl)),zr rfl ?_⟩)
   refine iteB1 ?_ (iteB1 rfl q)
   rcases tyS_six ht with rfl | rfl | rfl | rfl | rfl | rfl | rfl <;> first | rfl | exact absurd rfl nt
  ·refine (zr rfl ⟨_, "tuple", "tuple", rfl,tyS_tup hl,.inr (.inr (.inr rfl)),zr rfl (iteB0 rfl ?_)⟩)
   refine (zr rfl ⟨l,zr rfl ⟨.inr (SqT.of hl),rfl,zr rfl ?_⟩⟩)
   by_cases h4:xs.length=4
   ·match xs,h4 with
    | [x0,x1,x2,x3],_=>
     obtain ⟨t0,h0⟩:=hx x0 (by simp)
     obtain ⟨t1,h1⟩:=hx x1 (by simp)
     obtain ⟨t2,h2⟩:=hx x2 (by simp)
     obtain ⟨t3,h3⟩:=hx x3 (by simp)
     refine iteB0 (by simp) ?_
     refine (zr rfl (un4 hl ?_))
     have q:Q (.bl (inB 0 ((rooms.length:Int) - 1) x0 && (inB 0 1000000000 x1 && (inB 0 ((rooms.length:Int) - 1) x2 && inB 0 1000000000 x3)))) H:=q
     refine (zr rfl (zr rfl (ex7 b x0 t0 rooms tr tm ps ⟨rfl,hb,h0,zr rfl (iteB (λc0=>?_) (λc0=>by rw [c0] at q;exact q))⟩)))
     refine (zr rfl ⟨x1,t1,rfl,h1,zr rfl (iteB (λc1=>?_) (λc1=>by rw [c0,c1] at q;exact q))⟩)
     refine (zr rfl (zr rfl (ex7 b x2 t2 rooms tr tm ps ⟨rfl,hb,h2,zr rfl (iteB (λc2=>?_) (λc2=>by rw [c0,c1,c2] at q;exact q))⟩)))
     refine (zr rfl ⟨x3,t3,rfl,h3,?_⟩)
     rw [c0,c1,c2] at q
     exact q
   ·refine iteB1 ?_ ?_
    ·have:¬ V.int (xs.length:Int)=V.int 4:=λz=>h4 (by have:=V.int.inj z;omega)
     simp [this]
    ·have:isLet (rooms.length:Int) (some xs)=false:=by
      unfold isLet
      split
      ·rename_i e;cases e;simp at h4
      ·rfl
     rw [this] at q
     exact q
theorem DO:FnScope ["book", "sender", "since", "times", "came", "number", "giver", "other", "when"] ["book", "sender", "since"] (defScope C8):=⟨rfl,rfl,rfl,by decide +kernel,rfl,by decide +kernel,by decide +kernel⟩
theorem DS (T:Tx K mg a t_LAST_TIME t_MOST_WALKERS t_MOST_ROOM t_MOST_MEETINGS t_MOST_MANY) (B:BmAt mg base):FnOk P w K mg base CX0 2 a.Ay a.A3 ["book", "sender", "since"] (spFirst2):=by
 have Kz:=@Jm P w _ _ base _ _ _ _ _ _ T B
 have Kv:=@KH P w _ _ base _ _ _ _ _ _ T B
 have Kw:=@Jj P w _ _ base _ _ _ _ _ _ T B
 refine T.AK.ok DO (λvs H Q E h=>?_) (λcdv A outer s H vs Q E hr h=>?_)
 ·obtain ⟨b,k,x,_,_,_,_,rfl,_⟩:=h;rfl
 ·have nd:=DO.nd
  have hu:=hr.units
  obtain ⟨b,k,x,rooms,tr,tm,ps,rfl,hb,hn,gd,q⟩:=h
  refine ⟨_,(@xg _ _ _ (@xj _ _ _ _ _ _ (xk (i:=3) nd rfl (by first | exact Or.inl rfl | exact Or.inr rfl) (xh Kw (hr.mono (by decide)) rfl T.JZ T.J8 T.Ke .nil pass0 (@xV _ _ _ (@xX _ _ _ _ _ (pv 0) (@xX _ _ _ _ _ (pv 1) (@xX _ _ _ _ _ (pv 2) xi rfl) rfl) rfl)))) (@xj _ _ _ _ _ _ (xk (i:=4) nd rfl (by first | exact Or.inl rfl | exact Or.inr rfl) pe_dnewK) (@xj _ _ _ _ _ _ (wV PassesOwn.never rfl (@wN _ _ _ _ _ rfl (xh Kv (hr.mono (by decide)) rfl T.K5 T.K8 T.La .nil pass0 (@xV _ _ _ (@xX _ _ _ _ _ (pv 0) xi rfl)))) (wD (n:=4) rfl rfl (xf (xc (i:=5) nd rfl (by first | exact Or.inl rfl | exact Or.inr rfl)) (xf (xc (i:=6) nd rfl (by first | exact Or.inl rfl | exact Or.inr rfl)) (xf (xc (i:=7) nd rfl (by first | exact Or.inl rfl | exact Or.inr rfl)) (xf (xc (i:=8) nd rfl (by first | exact Or.inl rfl | exact Or.inr rfl)) wB))))) (@xg _ _ _ (@xu _ _ _ (@wA _ _ _ _ _ _ _ _ (@PW.pt _ _ _ (@pw_and _ _ _ _ _ _ _ (pt_cmp (@pc_isN _ _ _ _ _ (@xw _ _ _ _ _ _ _ (xx rfl) (pv 3) (pv 7) (λ_ _=>rfl)))) (@pw_and1 _ _ _ _ (wT (xh Kz (hr.mono (by decide)) rfl T.J5 T.Kb T.Kh .nil pass0 (@xV _ _ _ (@xX _ _ _ _ _ (@xw _ _ _ _ _ _ _ (xx rfl) (pv 3) (pv 6) (λ_ _=>rfl)) (@xX _ _ _ _ _ (pv 8) xi rfl) rfl))))))) (@xg _ _ _ (@xj _ _ _ _ _ _ (wU (pv 8) (pg_sub (pv 3) (pv 7) set_list)) (@xu _ _ _ (ps_dput (Nat.lt_of_le_of_lt (Nat.add_le_add_left (by decide) _) hu) (pv 4) (pv 7) (@wO _ _ _ _ _ (@xV _ _ _ (@xX _ _ _ _ _ (pv 5) (@xX _ _ _ _ _ (pv 6) xi rfl) rfl))) rfl)))) xv)))) (@xu _ _ _ (@xl _ _ _ _ (@wO _ _ _ _ _ (@xV _ _ _ (@xX _ _ _ _ _ (pv 3) (@xX _ _ _ _ _ (pv 4) xi rfl) rfl))))))))),?_⟩
  have line:=line9
  have l60:=gd.len
  refine (zr rfl (zr rfl (zr rfl (ex7 b k x rooms tr tm ps ⟨rfl,hb,hn,λl H1 hl sm1 h1=>?_⟩))))
  refine λd hd=>?_
  have ndl:d≠l:=(xZ h1 hd).symm
  have sm1d:=sm1.trans (xa (o:=HO.dK []) hd)
  have hfd:H d=none:=sm1.free hd
  refine (zr rfl (ex5 b rooms tr tm ps ⟨rfl,hb.same sm1d,gd,λlw ws H2 hlw sm2 h2 hr ew=>?_⟩))
  have h1':=sm2 _ _ (xa (o:=HO.dK []) hd _ _ h1)
  have hd':=sm2 _ _ (xW (H:=H1) (a:=d) (o:=HO.dK []))
  have eall:(ws.map (·.2)).map (·.w)=ways2 (ps.map (·.2)):=by
   have:=waysN_all (ps.map (·.2))
   rw [zA] at this
   rw [ew,this]
  have lws:ws.length=2 * ps.length:=by
   have:=congrArg List.length eall
   rw [zA,zA,ways2_len,zA] at this
   exact this
  have nwl:lw≠l:=(xZ (xa (o:=HO.dK []) hd _ _ h1) hlw).symm
  have nwd:lw≠d:=(xZ (xW (H:=H1) (a:=d) (o:=HO.dK [])) hlw).symm
  refine ⟨lw,rfl,⟨_,SqL.of h2⟩,?_⟩
  refine wr (K:=K) (a:=lw) (xs:=(ws.map λa=>V.ref a.1)) (λi σ H4=>(∃ v5 v6 v7 v8,σ=[some (.ref b),some (.int k),some (.int x),some (.ref l),some (.ref d),v5,v6,v7,v8])/\Same H H4/\H4 l=some (.lst ((rep rooms.length (((ws.take i).map (·.2.w)).foldl fstep (lone k x))).map oV))/\(∃ kvs,H4 d=some (.dK kvs)/\kvs.length<=i/\Came (ps.map (·.2)) k (((ws.take i).map (·.2.w)).foldl fstep (lone k x)) kvs H4)/\(∀ b u,b≠l->b≠d->H2 b=some u->H4 b=some u))
   ?_ ?_ ?_ ?_
  ·exact ⟨⟨_,_,_,_,rfl⟩,sm1d.trans sm2,h1',⟨[],hd',zD _,λo t h=>.inl (by have h:lone k x o=some t:=h;unfold lone at h;split at h;assumption;cases h)⟩,λ_ _ _ _ e=>e⟩
  ·rintro i σ H4 _ ⟨_,_,_,_,kp⟩
   exact SqL.of (kp lw _ nwl nwd h2)
  ·rintro i y σ H4 hy ⟨⟨v5,v6,v7,v8,rfl⟩,sm4,h4,⟨kvs,h4d,lk,cm⟩,kp⟩
   obtain ⟨r,hr1,rfl⟩:=wL hy
   have hi:i < ws.length:=(zB.mp hr1).1
   have rm:r∈ws:=zC hr1
   have hrow0:=hr r rm
   have nl:r.1≠l:=ne_of hrow0 h1' (by intro z;cases z)
   have nd2:r.1≠d:=ne_of hrow0 hd' (by intro z;cases z)
   have hrow:=kp r.1 _ nl nd2 hrow0
   have wm:r.2.w∈ways2 (ps.map (·.2)):=by
    rw [<-eall]
    exact zQ.mpr ⟨r.2,zQ.mpr ⟨r,rm,rfl⟩,rfl⟩
   obtain ⟨g1,g2,g3,g4,g5⟩:=ways2_mem gd wm
   have gl:r.2.w.g < rooms.length:=by omega
   have ol:r.2.w.o < rooms.length:=by omega
   have fold:∀ f:Fn,((ws.take i).map (·.2.w)).foldl fstep (lone k x)=f->((ws.take (i + 1)).map (·.2.w)).foldl fstep (lone k x)=fstep f r.2.w:=λf e=>by
    rw [take_snoc hr1,zK,List.foldl_append,e];rfl
   refine (un4 hrow ?_)
   generalize ef:((ws.take i).map (·.2.w)).foldl fstep (lone k x)=f at h4 cm
   have fo:=fold f ef
   have hg:((rep rooms.length f).map oV)[r.2.w.g]?=some (oV (f r.2.w.g)):=rep_at gl
   have ho:((rep rooms.length f).map oV)[r.2.w.o]?=some (oV (f r.2.w.o)):=rep_at ol
   refine (zr rfl (zr rfl (ixl h4 (wF ho) (zr rfl (iteD (λc=>?_) (λc=>iteB0 rfl ?_))))))
   ·have c':=oV_non.mp c
    refine (zr rfl (zr rfl (ixl h4 (wF hg) (zr rfl ⟨f r.2.w.g,r.2.w.t,rfl,zr rfl (iteB (λc2=>?_) (λc2=>?_))⟩))))
    ·refine (zr rfl (zr rfl (zr rfl ⟨l,_,_,r.2.w.o,rfl,rfl,h4,ixN_nat (by rw [zA,rep_len];exact ol),?_⟩)))
     refine (zr rfl (zr rfl ⟨by show 2<=sizeLine;omega,λtt htt=>(zr rfl (zr rfl ⟨d,zr rfl ⟨DPut.k (k:=Sum.inl (r.2.w.o:Int)) (xa htt _ _ (by rw [xb ndl];exact h4d)) (by omega),?_⟩⟩))⟩))
     have nlt:l≠tt:=xZ (xW) htt
     have smx:=(Same.put (o:=HO.lst (((rep rooms.length f).map oV).set r.2.w.o (.int r.2.w.t))) hl sm4).trans (xa (o:=HO.tup [.int r.2.n,.int r.2.w.g]) htt)
     have hdx:=xa (o:=HO.tup [.int r.2.n,.int r.2.w.g]) htt _ _ (show (upd H4 l (HO.lst (((rep rooms.length f).map oV).set r.2.w.o (.int r.2.w.t)))) d=some (.dK kvs) by rw [xb ndl];exact h4d)
     have ntd:tt≠d:=(xZ (show (upd H4 l (HO.lst (((rep rooms.length f).map oV).set r.2.w.o (.int r.2.w.t)))) d=some (.dK kvs) by rw [xb ndl];exact h4d) htt).symm
     have lnk:Link (ps.map (·.2)) r.2.n r.2.w.g r.2.w.o r.2.w.t:=waysN_link (i:=ps.length) (by rw [<-ew];exact zQ.mpr ⟨r,rm,rfl⟩)
     have cmN:Came (ps.map (·.2)) k (((ws.take (i + 1)).map (·.2.w)).foldl fstep (lone k x)) (putK kvs (Sum.inl (r.2.w.o:Int)) (.ref tt)) (upd (upd (upd H4 l (HO.lst (((rep rooms.length f).map oV).set r.2.w.o (.int r.2.w.t)))) tt (HO.tup [.int r.2.n,.int r.2.w.g])) d (HO.dK (putK kvs (Sum.inl (r.2.w.o:Int)) (.ref tt)))):=by
      rw [fo]
      unfold fstep
      rw [if_pos ⟨c',c2⟩]
      exact Came.step (x:=r.2) (cm.tups (((Tups.set h4).trans (Tups.new htt)).trans (Tups.setD hdx))) c' c2 lnk (by rw [xb ntd,xW])
     refine ⟨⟨_,_,_,_,rfl⟩,Same.put hfd smx,?_,⟨_,xW,z8 (length_putK _ _ _) (by omega),cmN⟩,λb u nb nb' e=>?_⟩
     ·rw [xb ndl.symm,xb nlt,xW,fo]
      unfold fstep
      rw [if_pos ⟨c',c2⟩,<- rep_set ol,List.map_set];rfl
     ·rw [xb nb']
      exact xa htt _ _ (by rw [xb nb];exact kp b u nb nb' e)
    ·refine ⟨⟨_,_,_,_,rfl⟩,sm4,?_,⟨kvs,h4d,by omega,by rw [fo];unfold fstep;rw [if_neg λz=>by rw [z.2] at c2;cases c2];exact cm⟩,kp⟩
     rw [fo]
     unfold fstep
     rw [if_neg λz=>by rw [z.2] at c2;cases c2]
     exact h4
   ·refine ⟨⟨_,_,_,_,rfl⟩,sm4,?_,⟨kvs,h4d,by omega,by rw [fo];unfold fstep;rw [if_neg λz=>c (oV_non.mpr z.1)];exact cm⟩,kp⟩
    rw [fo]
    unfold fstep
    rw [if_neg λz=>c (oV_non.mpr z.1)]
    exact h4
  ·rintro σ H4 ⟨⟨v5,v6,v7,v8,rfl⟩,sm4,h4,⟨kvs,h4d,lk,cm⟩,kp⟩
   rw [zA,zu] at h4 cm
   have e:((ws.map (·.2.w)).foldl fstep (lone k x))=fwd (ps.map (·.2)) (lone k x):=by
    unfold fwd
    rw [<-eall,yA];rfl
   rw [e] at h4 cm
   exact (zr rfl (zr rfl ⟨by show 2<=sizeLine;omega,λtt htt=>q tt l d kvs _ hl (sm4.trans (xa htt)) xW (xa htt _ _ h4) (xa htt _ _ h4d) (cm.tups (Tups.new htt))⟩))
theorem DA:FnScope ["book", "sender", "since", "times", "came"] ["book", "sender", "since"] (defScope Cy):=⟨rfl,rfl,rfl,by decide +kernel,rfl,by decide +kernel,by decide +kernel⟩
theorem FT (T:Tx K mg a t_LAST_TIME t_MOST_WALKERS t_MOST_ROOM t_MOST_MEETINGS t_MOST_MANY) (B:BmAt mg base):FnOk P w K mg base CX0 3 a.As a.AX ["book", "sender", "since"] (spTimes):=by
 have Dg:=@DS P w _ _ base _ _ _ _ _ _ T B
 refine T.AF.ok DA (λvs H Q E h=>?_) (λcdv A outer s H vs Q E hr h=>?_)
 ·obtain ⟨b,k,x,_,_,_,_,rfl,_⟩:=h;rfl
 ·have nd:=DA.nd
  have hu:=hr.units
  obtain ⟨b,k,x,rooms,tr,tm,ps,rfl,hk,hb,hn,gd,q⟩:=h
  refine ⟨_,(@xg _ _ _ (@xj _ _ _ _ _ _ (wU (xh Dg (hr.mono (by decide)) rfl T.Eo T.Ep T.Er .nil pass0 (@xV _ _ _ (@xX _ _ _ _ _ (pv 0) (@xX _ _ _ _ _ (pv 1) (@xX _ _ _ _ _ (pv 2) xi rfl) rfl) rfl))) (wD (n:=2) rfl rfl (xf (xc (i:=3) nd rfl (by first | exact Or.inl rfl | exact Or.inr rfl)) (xf (xc (i:=4) nd rfl (by first | exact Or.inl rfl | exact Or.inr rfl)) wB)))) (@xu _ _ _ (@xl _ _ _ _ (pv 3))))),?_⟩
  refine (zr rfl (zr rfl (zr rfl (ex7 b k x rooms tr tm ps ⟨rfl,hb,hn,gd,λt l d kvs H1 hl sm ht h1 _ _=>?_⟩))))
  exact (un2 ht (zr rfl (q l _ hl sm h1)))
theorem GG:FnScope ["book", "letter", "sender", "since", "wish", "last", "times", "came", "chain", "walker", "number"] ["book", "letter"] (defScope Ft):=⟨rfl,rfl,rfl,by decide +kernel,rfl,by decide +kernel,by decide +kernel⟩
theorem GK (T:Tx K mg a t_LAST_TIME t_MOST_WALKERS t_MOST_ROOM t_MOST_MEETINGS t_MOST_MANY) (B:BmAt mg base):FnOk P w K mg base CX0 5 a.BO a.CO ["book", "letter"] (spEarliest):=by
 have K1:=@JV P w _ _ base _ _ _ _ _ _ T B
 have EW:=@FS P w _ _ base _ _ _ _ _ _ T B
 have Dg:=@DS P w _ _ base _ _ _ _ _ _ T B
 refine T.Cf.ok GG (λvs H Q E h=>?_) (λcdv A outer s H vs Q E hr h=>?_)
 ·obtain ⟨b,lt,_,_,_,_,_,_,_,_,rfl,_⟩:=h;rfl
 ·have nd:=GG.nd
  have hu:=hr.units
  obtain ⟨b,lt,s0,w0,a0,z0,rooms,tr,tm,ps,rfl,hb,hn,gd,hL,qn,qy⟩:=h
  refine ⟨_,(@xg _ _ _ (@xj _ _ _ _ _ _ (@wA _ _ _ _ _ _ _ _ (@wY _ _ _ _ (wT (xh EW (hr.mono (by decide)) rfl T.GM T.GP T.GS .nil pass0 (@xV _ _ _ (@xX _ _ _ _ _ (pv 0) (@xX _ _ _ _ _ (pv 1) xi rfl) rfl))))) (@xg _ _ _ (@xu _ _ _ (@xl _ _ _ _ pe_non))) xv) (@xj _ _ _ _ _ _ (wU (pv 1) (wD (n:=4) rfl rfl (xf (xc (i:=2) nd rfl (by first | exact Or.inl rfl | exact Or.inr rfl)) (xf (xc (i:=3) nd rfl (by first | exact Or.inl rfl | exact Or.inr rfl)) (xf (xc (i:=4) nd rfl (by first | exact Or.inl rfl | exact Or.inr rfl)) (xf (xc (i:=5) nd rfl (by first | exact Or.inl rfl | exact Or.inr rfl)) wB)))))) (@xj _ _ _ _ _ _ (wU (xh Dg (hr.mono (by decide)) rfl T.Eo T.Ep T.Er .nil pass0 (@xV _ _ _ (@xX _ _ _ _ _ (pv 0) (@xX _ _ _ _ _ (pv 2) (@xX _ _ _ _ _ (pv 3) xi rfl) rfl) rfl))) (wD (n:=2) rfl rfl (xf (xc (i:=6) nd rfl (by first | exact Or.inl rfl | exact Or.inr rfl)) (xf (xc (i:=7) nd rfl (by first | exact Or.inl rfl | exact Or.inr rfl)) wB)))) (@xj _ _ _ _ _ _ (@wA _ _ _ _ _ _ _ _ (@wY _ _ _ _ (wT (xh K1 (hr.mono (by decide)) rfl T.KL T.KN T.KQ .nil pass0 (@xV _ _ _ (@xX _ _ _ _ _ (@xw _ _ _ _ _ _ _ (xx rfl) (pv 6) (pv 4) (λ_ _=>rfl)) (@xX _ _ _ _ _ (pv 5) xi rfl) rfl))))) (@xg _ _ _ (@xu _ _ _ (@xl _ _ _ _ pe_non))) xv) (@xj _ _ _ _ _ _ (xk (i:=8) nd rfl (by first | exact Or.inl rfl | exact Or.inr rfl) (@wC _ _ _ _ wK)) (@xj _ _ _ _ _ _ (xk (i:=9) nd rfl (by first | exact Or.inl rfl | exact Or.inr rfl) (pv 4)) (@xj _ _ _ _ _ _ (@ps_while _ _ _ _ _ _ PassesOwn.never (@xq _ _ _ _ _ _ _ _ op_ne (pv 9) (pv 2) (nomark _)) (@xg _ _ _ (@xj _ _ _ _ _ _ (wU (pe_dget (Nat.lt_of_le_of_lt (Nat.add_le_add_left (by decide) _) hu) (pv 7) (pv 9) (λ_ _=>rfl)) (wD (n:=2) rfl rfl (xf (xc (i:=10) nd rfl (by first | exact Or.inl rfl | exact Or.inr rfl)) (xf (xc (i:=9) nd rfl (by first | exact Or.inl rfl | exact Or.inr rfl)) wB)))) (@xu _ _ _ (wJ (pe_bm zd zZ za wI (pv 8) (@xV _ _ _ (@xX _ _ _ _ _ (pv 10) xi rfl)))))))) (@xu _ _ _ (@xl _ _ _ _ (@pe_revL _ _ _ _ _ _ _ _ _ rfl (pv 8)))))))))))),?_⟩
  have line:=line9
  obtain ⟨hlt,hs1,hw1,_⟩:=id hL
  refine (zr rfl (zr rfl (ex7 b (.ref lt) _ rooms tr tm ps ⟨rfl,hb,hL.th,zr rfl (iteB0 (by rw [hL.yes];rfl) ?_)⟩)))
  refine (zr rfl (un4 hlt ?_))
  refine (zr rfl (zr rfl (zr rfl (ex7 b s0 a0 rooms tr tm ps ⟨rfl,hb,hn,gd,λt l d kvs H1 hl sm1 ht h1 hd cm=>(un2 ht ?_)⟩))))
  generalize eE:fwd (ps.map (·.2)) (lone s0 a0)=E0 at qn qy h1 cm
  have er:=early_fwd (s:=s0) (x:=a0) gd
  rw [eE] at er
  refine (zr rfl (zr rfl (ixl h1 (wF (rep_at hw1)) (zr rfl ⟨E0 w0,z0,rfl,zr rfl (iteB (λc=>?_) (λc=>?_))⟩))))
  ·exact qn (by cases e:upto (E0 w0) z0 with
    | false=>rfl
    | true=>rw [e] at c;cases c) _ sm1
  obtain ⟨ew,hew,lez⟩:∃ e,E0 w0=some e/\e<=z0:=upto_iff.mp (by cases e:upto (E0 w0) z0 with
    | true=>rfl
    | false=>rw [e] at c;cases c)
  refine ⟨zc _,λlc hlc=>(zr rfl ?_)⟩
  have hlcH:H lc=none:=sm1.free hlc
  refine while_by (fun σ H4=>∃ (v:Nat) (e:Int) (cs:List Int),∃ v10,σ=[some (.ref b),some (.ref lt),some (.int s0),some (.int a0),some (.int w0),some (.int z0),some (.ref l),some (.ref d),some (.ref lc),some (.int v),v10]/\E0 v=some e/\H4 lc=some (.lst (List.map V.int cs.reverse)) /\
    (∀ b u,b≠lc->H1 b=some u->H4 b=some u)/\cs.length + rankE rooms.length E0 e<=rooms.length /\
    (∀ A:Int,(A=-1\/∃ n:Nat,∃ m,A=n/\(ps.map (·.2))[n]?=some m/\m.t<=e)->walkM (ps.map (·.2)) v e A cs=some (w0,ew)))
   (fun σ _=>mu rooms.length E0 σ) ?_ ?_ ?_
  ·exact ⟨w0,ew,[],zr rfl ⟨hew,xW,λb u nb e=>by rw [xb nb];exact e,by have:=rank_le rooms.length E0 ew;simpa using this,λA _=>rfl⟩⟩
  ·rintro σ H4 ⟨v,e,cs,v10,rfl,he,hc,kp,lrk,wk⟩
   refine (zr rfl (zr rfl ⟨rfl,zr rfl ?_⟩))
   by_cases hv:v=s0
   ·subst hv
    rw [er.self] at he;cases he
    refine iteNS2 rfl ?_
    refine (zr rfl ⟨lc,zr rfl ⟨SqL.of hc,λlr hlr=>?_⟩⟩)
    have e1:(List.map V.int cs.reverse).reverse=List.map V.int cs:=by rw [<-List.map_reverse,List.reverse_reverse]
    rw [e1]
    have smH:Same H H4:=λb u eb=>kp b u (xZ eb hlcH) (sm1 b u eb)
    exact qy ew lr cs _ hew lez (smH.free hlr) (smH.trans (xa hlr)) xW (by omega) (wk (-1) (.inl rfl))
   ·refine iteB1 (by have:¬ V.int (v:Int)=V.int (s0:Int):=λz=>hv (by have:=V.int.inj z;omega);simp [this]) ?_
    obtain hv' | ⟨tt,n,g,y,c1,c2,c3,c4,c5⟩:=cm v e he
    ·exact absurd hv' hv
    obtain ⟨gi,vi,gv⟩:=c3.inside gd
    have hd4:=kp d _ (λz=>by rw [z] at hd;rw [hd] at hlc;cases hlc) hd
    have ht4:=kp tt _ (λz=>by rw [z] at c2;rw [c2] at hlc;cases hlc) c2
    have dg:DGet H4 d (.int (v:Int)) (some (.ref tt)):=by
     have:=DGet.k (k:=Sum.inl (v:Int)) hd4
     rw [c1] at this;exact this
    have rl:=rank_lt gi c4 c5
    refine (zr rfl (zr rfl ⟨d,.ref tt,rfl,dg,un2 ht4 ?_⟩))
    refine (zr rfl ⟨.inl ⟨rfl,_,SqL.of hc⟩,zr rfl ⟨lc,zr2 rfl rfl ⟨hc,by rw [zA,List.length_reverse];omega,⟨g,y,(n:Int)::cs,zr rfl ⟨c4,?_,λb u nb eb=>by rw [xb nb];exact kp b u nb eb,by rw [zW];omega,λA hA=>?_⟩⟩,?_⟩⟩⟩)
    ·rw [xW,List.reverse_cons,zK];rfl
    ·obtain ⟨m,hm,mt,_⟩:=id c3
     have an:A < n:=by
      rcases hA with rfl | ⟨n',m',rfl,hm',lt'⟩
      ·omega
      ·have:=idx_lt gd.ord.2 hm' hm (by omega)
       omega
     rw [walk_cons c3 gv c5 an]
     exact wk n (.inr ⟨n,m,rfl,hm,by omega⟩)
    ·show mu rooms.length E0 _ < mu rooms.length E0 _
     unfold mu
     simp only [yW,yV,yB,yE,zh,c4,he]
     exact rl
  ·rintro σ H4 Q1 Q2 hq ⟨x,hx,y,hy,hsc,k1,hk1,h⟩
   exact ⟨x,hx,y,hy,hsc,k1,hk1,hq _ _ h⟩
theorem GF:FnScope ["meeting", "sent", "one", "other", "when", "many", "there", "back"] ["meeting", "sent"] (defScope Fs):=⟨rfl,rfl,rfl,by decide +kernel,rfl,by decide +kernel,by decide +kernel⟩
theorem Jn (T:Tx K mg a t_LAST_TIME t_MOST_WALKERS t_MOST_ROOM t_MOST_MEETINGS t_MOST_MANY) (B:BmAt mg base):FnOk P w K mg base CX0 1 a.BN a.CM ["meeting", "sent"] (spGiverOf):=by
 refine T.Ce.ok GF (λvs H Q E h=>?_) (λcdv A outer s H vs Q E hr h=>?_)
 ·obtain ⟨_,_,_,_,_,rfl,_⟩:=h;rfl
 ·have nd:=GF.nd
  have hu:=hr.units
  obtain ⟨t,l,m,th,bk,rfl,ht,hl,m0,m1,q⟩:=h
  refine ⟨_,(@xg _ _ _ (@xj _ _ _ _ _ _ (wU (pv 0) (wD (n:=4) rfl rfl (xf (xc (i:=2) nd rfl (by first | exact Or.inl rfl | exact Or.inr rfl)) (xf (xc (i:=3) nd rfl (by first | exact Or.inl rfl | exact Or.inr rfl)) (xf (xc (i:=4) nd rfl (by first | exact Or.inl rfl | exact Or.inr rfl)) (xf (xc (i:=5) nd rfl (by first | exact Or.inl rfl | exact Or.inr rfl)) wB)))))) (@xj _ _ _ _ _ _ (wU (pv 1) (pg_tupL (n:=2) rfl (xf (xc (i:=6) nd rfl (by first | exact Or.inl rfl | exact Or.inr rfl)) (xf (xc (i:=7) nd rfl (by first | exact Or.inl rfl | exact Or.inr rfl)) wB)))) (@xj _ _ _ _ _ _ (@wA _ _ _ _ _ _ _ _ (@xq _ _ _ _ _ _ _ _ wt (pv 6) (pv 7) (nomark _)) (@xg _ _ _ (@xu _ _ _ (@xl _ _ _ _ pe_non))) xv) (@xu _ _ _ (@xl _ _ _ _ (@pe_ifExp _ _ _ _ _ _ _ _ (@xq _ _ _ _ _ _ _ _ op_gt (pv 6) (pv 7) (nomark _)) (pv 2) (pv 3)))))))),?_⟩
  refine (zr rfl (un4 ht ?_))
  refine (zr rfl ⟨l,zr rfl ⟨SqL.of hl,rfl,zr1 rfl (zr2 rfl rfl ?_)⟩⟩)
  refine (zr rfl (zr rfl ⟨rfl,zr rfl (iteD (λc=>?_) (λc=>?_))⟩))
  ·rw [if_pos (V.int.inj c)] at q
   exact q
  ·rw [if_neg λz=>c (by rw [z])] at q
   refine (zr rfl (zr rfl (zr2 rfl rfl (zr rfl (iteD (λc=>?_) (λc=>?_))))))
   ·rw [if_pos (show bk < th by omega)] at q
    have e:oG (some m.lo.toNat)=V.int m.lo:=by show V.int ((m.lo.toNat:Nat):Int)=_;rw [yS m0]
    rw [e] at q
    exact (zr rfl q)
   ·rw [if_neg (show ¬ bk < th by omega)] at q
    have e:oG (some m.hi.toNat)=V.int m.hi:=by show V.int ((m.hi.toNat:Nat):Int)=_;rw [yS m1]
    rw [e] at q
    exact (zr rfl q)
theorem Ex:FnScope ["book", "letter", "sender", "since", "wish", "last", "walkers", "stream", "ties", "number", "giver", "other", "when", "point", "sent"] ["book", "letter"] (defScope wg):=⟨rfl,rfl,rfl,by decide +kernel,rfl,by decide +kernel,by decide +kernel⟩
theorem Hm (T:Tx K mg a t_LAST_TIME t_MOST_WALKERS t_MOST_ROOM t_MOST_MEETINGS t_MOST_MANY) (B:BmAt mg base):FnOk P w K mg base CX0 3 a.AO a.BA ["book", "letter"] (spGivers a.Aa):=by
 have D1:=@Hn P w _ _ base _ _ _ _ _ _ T B
 have Kv:=@KH P w _ _ base _ _ _ _ _ _ T B
 have F4:=@Fw P w _ _ base _ _ _ _ _ _ T B
 have F3:=@HZ P w _ _ base _ _ _ _ _ _ T B
 have Ix:=@Hq P w _ _ base _ _ _ _ _ _ T B
 have Iy:=@Hr P w _ _ base _ _ _ _ _ _ T B
 have KA:=@Jn P w _ _ base _ _ _ _ _ _ T B
 refine T.Bd.ok Ex (λvs H Q E h=>?_) (λcdv A outer s H vs Q E hr h=>?_)
 ·obtain ⟨_,_,_,_,_,_,_,_,_,_,rfl,_⟩:=h;rfl
 ·have nd:=Ex.nd
  have hu:=hr.units
  obtain ⟨b,lt,s0,w0,x0,z0,rooms,tr,tm,ps,rfl,hb,rm1,rm2,gd,hL,ne,q⟩:=h
  refine ⟨_,(@xg _ _ _ (@xj _ _ _ _ _ _ (wU (pv 1) (wD (n:=4) rfl rfl (xf (xc (i:=2) nd rfl (by first | exact Or.inl rfl | exact Or.inr rfl)) (xf (xc (i:=3) nd rfl (by first | exact Or.inl rfl | exact Or.inr rfl)) (xf (xc (i:=4) nd rfl (by first | exact Or.inl rfl | exact Or.inr rfl)) (xf (xc (i:=5) nd rfl (by first | exact Or.inl rfl | exact Or.inr rfl)) wB)))))) (@xj _ _ _ _ _ _ (xk (i:=6) nd rfl (by first | exact Or.inl rfl | exact Or.inr rfl) (xp (xo rfl) (by rfl) T.b_len PySem.boot_len (@xV _ _ _ (@xX _ _ _ _ _ (@xw _ _ _ _ _ _ _ (xy rfl) (pv 0) xY (λ_ _=>rfl)) xi rfl)))) (@xj _ _ _ _ _ _ (xk (i:=7) nd rfl (by first | exact Or.inl rfl | exact Or.inr rfl) (pe_make T.Ld F4 (hr.mono (by decide)) rfl T.K7 T.FX .nil pass0 (@xV _ _ _ (@xX _ _ _ _ _ (@xm _ _ _ _ _ _ _ _ wQ (pv 6) (@xm _ _ _ _ _ _ _ _ wG (xp (xo rfl) (by rfl) T.b_len PySem.boot_len (@xV _ _ _ (@xX _ _ _ _ _ (@xw _ _ _ _ _ _ _ (xy rfl) (pv 0) xY (λ_ _=>rfl)) xi rfl))) xY)) xi rfl)))) (@xj _ _ _ _ _ _ (xk (i:=8) nd rfl (by first | exact Or.inl rfl | exact Or.inr rfl) (@wC _ _ _ _ wK)) (@xj _ _ _ _ _ _ (wV PassesOwn.never rfl (@wN _ _ _ _ _ rfl (xh Kv (hr.mono (by decide)) rfl T.K5 T.K8 T.La .nil pass0 (@xV _ _ _ (@xX _ _ _ _ _ (pv 0) xi rfl)))) (wD (n:=4) rfl rfl (xf (xc (i:=9) nd rfl (by first | exact Or.inl rfl | exact Or.inr rfl)) (xf (xc (i:=10) nd rfl (by first | exact Or.inl rfl | exact Or.inr rfl)) (xf (xc (i:=11) nd rfl (by first | exact Or.inl rfl | exact Or.inr rfl)) (xf (xc (i:=12) nd rfl (by first | exact Or.inl rfl | exact Or.inr rfl)) wB))))) (@xg _ _ _ (@xu _ _ _ (wJ (pe_bm zd zZ za wI (pv 8) (@xV _ _ _ (@xX _ _ _ _ _ (pe_meth (pv 7) T.Ag T.F1 F3 (hr.mono (by decide)) T.FW .nil pass0 (@xV _ _ _ (@xX _ _ _ _ _ (@xm _ _ _ _ _ _ _ _ wG (@xm _ _ _ _ _ _ _ _ wQ (pv 9) (pv 6)) (pv 10)) (@xX _ _ _ _ _ (@xm _ _ _ _ _ _ _ _ wG (@xm _ _ _ _ _ _ _ _ wG (@xm _ _ _ _ _ _ _ _ wQ (pv 9) (pv 6)) (pv 6)) (pv 11)) (@xX _ _ _ _ _ xY xi rfl) rfl) rfl))) xi rfl))))))) (@xj _ _ _ _ _ _ (wV PassesOwn.never rfl (wc rfl T.b_range (@xV _ _ _ (@xX _ _ _ _ _ (@xm _ _ _ _ _ _ _ _ wQ (pv 6) (xp (xo rfl) (by rfl) T.b_len PySem.boot_len (@xV _ _ _ (@xX _ _ _ _ _ (@xw _ _ _ _ _ _ _ (xy rfl) (pv 0) xY (λ_ _=>rfl)) xi rfl)))) xi rfl))) (xc (i:=13) nd rfl (by first | exact Or.inl rfl | exact Or.inr rfl)) (@xg _ _ _ (@xu _ _ _ (wJ (pe_meth (pv 7) T.Ag T.F1 F3 (hr.mono (by decide)) T.FW .nil pass0 (@xV _ _ _ (@xX _ _ _ _ _ (pv 13) (@xX _ _ _ _ _ (@xm _ _ _ _ _ _ _ _ wG (pv 13) (pv 6)) (@xX _ _ _ _ _ xY xi rfl) rfl) rfl))))))) (@xj _ _ _ _ _ _ (wJ (pe_meth (pv 7) T.Ag T.Ir Iy (hr.mono (by decide)) T.Ij .nil pass0 (@xV _ _ _ (@xX _ _ _ _ _ (@xm _ _ _ _ _ _ _ _ wG (@xm _ _ _ _ _ _ _ _ wQ (xh D1 (hr.mono (by decide)) rfl T.E4 T.E6 T.E8 .nil pass0 (@xV _ _ _ (@xX _ _ _ _ _ (pv 0) (@xX _ _ _ _ _ (pv 3) xi rfl) rfl))) (pv 6)) (pv 2)) (@xX _ _ _ _ _ (@xm _ _ _ _ _ _ _ _ wG (@xm _ _ _ _ _ _ _ _ wQ (xh D1 (hr.mono (by decide)) rfl T.E4 T.E6 T.E8 .nil pass0 (@xV _ _ _ (@xX _ _ _ _ _ (pv 0) (@xX _ _ _ _ _ (pv 5) xi rfl) rfl))) (pv 6)) (pv 4)) xi rfl) rfl)))) (@xj _ _ _ _ _ _ (xk (i:=14) nd rfl (by first | exact Or.inl rfl | exact Or.inr rfl) (pe_comp (own:=["tie"]) (caps:=[7]) rfl (show CompScope ["tie"] [7] ["book", "letter", "sender", "since", "wish", "last", "walkers", "stream", "ties", "number", "giver", "other", "when", "point", "sent"] (defScope wg) _ from ⟨rfl,by decide +kernel,by decide +kernel,by decide +kernel,by decide +kernel⟩) (@wN _ _ _ _ _ rfl (pv 8)) (λ_ _ _ _=>(xc (i:=0) (show List.Nodup (["tie", "stream"]:List Str) from by decide +kernel) rfl (by first | exact Or.inl rfl | exact Or.inr rfl))) (λ_ _ _ _=>pts_nil) (λ_ _ _ _=>(pe_meth (pv 1) T.Ag T.Iq Ix (hr.mono (by decide)) T.Ii .nil pass0 (@xV _ _ _ (@xX _ _ _ _ _ (pv 0) xi rfl)))))) (@xu _ _ _ (@xl _ _ _ _ (pe_comp (own:=["number", "meeting"]) (caps:=[14]) rfl (show CompScope ["number", "meeting"] [14] ["book", "letter", "sender", "since", "wish", "last", "walkers", "stream", "ties", "number", "giver", "other", "when", "point", "sent"] (defScope wg) _ from ⟨rfl,by decide +kernel,by decide +kernel,by decide +kernel,by decide +kernel⟩) (pi_enumT rfl rfl T.b_enumerate (@xV _ _ _ (@xX _ _ _ _ _ (@xw _ _ _ _ _ _ _ (xy rfl) (pv 0) xY (λ_ _=>rfl)) xi rfl))) (λ_ _ _ _=>(wD (n:=2) rfl rfl (xf (xc (i:=0) (show List.Nodup (["number", "meeting", "sent"]:List Str) from by decide +kernel) rfl (by first | exact Or.inl rfl | exact Or.inr rfl)) (xf (xc (i:=1) (show List.Nodup (["number", "meeting", "sent"]:List Str) from by decide +kernel) rfl (by first | exact Or.inl rfl | exact Or.inr rfl)) wB)))) (λ_ _ _ _=>pts_nil) (λ_ _ _ _=>(xh KA (hr.mono (by decide)) rfl T.J6 T.Kc T.Ki .nil pass0 (@xV _ _ _ (@xX _ _ _ _ _ (pv 1) (@xX _ _ _ _ _ (@pe_slice _ _ _ _ _ _ _ _ _ _ (sl_list' rfl) (pv 2) (@po_some _ _ _ (@xm _ _ _ _ _ _ _ _ wQ xY (pv 0))) (@po_some _ _ _ (@xm _ _ _ _ _ _ _ _ wG (@xm _ _ _ _ _ _ _ _ wQ xY (pv 0)) xY))) xi rfl) rfl)))))))))))))))),?_⟩
  have line:3010<=sizeLine:=by rw [sizeLine_eq];decide
  have n60:=gd.len
  have lps:(ps.map (·.2)).length=ps.length:=zA ..
  have lpr:(ps.map λa=>V.ref a.1).length=ps.length:=zA ..
  obtain ⟨sm1,sm2⟩:=pts_small rm2 n60
  refine (zr rfl (un4 hL.1 ?_))
  refine (zr rfl (ixt hb.book rfl ⟨tr,zr rfl ⟨.inr (SqT.of hb.rooms),?_⟩⟩))
  rw [zA]
  refine (zr rfl (zr rfl (ixt hb.book rfl ⟨tm,zr rfl ⟨.inr (SqT.of hb.meets),?_⟩⟩)))
  rw [lpr]
  refine (zr2 rfl rfl (zr2 rfl rfl ⟨.inl ⟨by omega,by omega⟩,λx dx fx fdx ndx=>⟨x,dx,rooms.length * (ps.length + 1),rfl,xW,by omega,λlA lE lS as H1 b1 st1 fr1=>⟨rfl,?_⟩⟩⟩))
  have s1:=made_same fx fdx b1
  have fr:∀ b∈x::lA::lE::lS::as,H b=none:=λb hb=>by
   rcases zH.mp hb with rfl | hb
   ·exact fx
   ·exact made_free (fr1 b hb)
  have fr':∀ b∈x::lE::lS::as,b∈x::lA::lE::lS::as:=λb hb=>by
   rcases zH.mp hb with rfl | hb
   ·exact .head _
   ·exact .tail _ (.tail _ hb)
  refine ⟨by show 0<=sizeLine;omega,λla hla=>?_⟩
  have ola:la ∉ x::lA::lE::lS::as:=λh=>own_some st1 la h hla
  have fla:H la=none:=s1.free hla
  have s2:=xa (o:=HO.lst []) hla
  have h2:upd H1 la (HO.lst []) la=some (.lst []):=xW
  generalize upd H1 la (HO.lst [])=H2 at s2 h2 ⊢
  have st2:=st1.same s2
  have s02:=s1.trans s2
  refine (zr rfl (ex5 b rooms tr tm ps ⟨rfl,hb.same s02,gd,λlw ws H3 hlw s3 h3 r3 ew=>?_⟩))
  have olw:lw ∉ x::lA::lE::lS::as:=λh=>own_some st2 lw h hlw
  have nlw:lw≠la:=λe=>by rw [e,h2] at hlw;cases hlw
  have lws:ws.length=2 * ps.length:=by
   have:=congrArg List.length ew
   rw [zA] at this
   rw [this,<- zA (f:=tie27 rooms.length),<- tW_map,<- lps,tW_len _ (zD _)]
  have wsin:∀ y∈ws,y.2.n < ps.length/\y.2.w.g < rooms.length/\y.2.w.o < rooms.length:=λy hy=>by
   have:y.2∈waysN (ps.map (·.2)) ps.length:=by rw [<-ew];exact zQ.mpr ⟨y,hy,rfl⟩
   have:=way_in27 gd this
   rwa [lps] at this
  refine ⟨lw,rfl,⟨_,SqL.of h3⟩,?_⟩
  refine wr (K:=K) (a:=lw) (xs:=ws.map λy=>V.ref y.1) (λi σ H4=>(∃ o9 o10 o11 o12,σ=[some (.ref b),some (.ref lt),some (.int (s0:Int)),some (.int x0),some (.int (w0:Int)),some (.int z0),some (.int (rooms.length:Int)),some (.ref x),some (.ref la),o9,o10,o11,o12,none,none])/\Same H H4/\H4 lw=some (.lst (ws.map λy=>V.ref y.1))/\H4 la=some (.lst (iL i))/\(∀ y∈ws,H4 y.1=some (.tup y.2.vs))/\SAt a.Aa H4 x dx lA lE lS as 0 (rooms.length * (ps.length + 1)) ((ws.take i).map λy=>tie27 rooms.length y.2) (spr ((ws.take i).map λy=>tie27 rooms.length y.2))) ⟨⟨_,_,_,_,rfl⟩,s02.trans s3,h3,s3 _ _ h2,r3,st2.same s3⟩ (λi σ H4 _ h=>SqL.of h.2.2.1) ?_ ?_
  ·rintro i v σ H4 hv ⟨⟨o9,o10,o11,o12,rfl⟩,s4,h4w,h4a,r4,st4⟩
   obtain ⟨y,hy,rfl⟩:=wL hv
   have ym:=zC hy
   obtain ⟨y1,y2,y3⟩:=wsin y ym
   have hi:i < 2 * ps.length:=by rw [<-lws];exact (zB.mp hy).1
   have eT:(ws.take (i + 1)).map (λy=>tie27 rooms.length y.2)=(ws.take i).map (λy=>tie27 rooms.length y.2)++[tie27 rooms.length y.2]:=by rw [yq,hy,zK];rfl
   have eL:((ws.take i).map λy=>tie27 rooms.length y.2).length=i:=by rw [zA,zX];omega
   have p1:=pt_lt (W:=rooms.length) (xF y1) y2
   have p2:=pt_lt (W:=rooms.length) (show y.2.n + 1<=ps.length by omega) y3
   rw [yQ] at p2
   refine (un4 (r4 y ym) ?_)
   refine (zr rfl ⟨.inl ⟨rfl,_,SqL.of h4a⟩,?_⟩)
   refine (zr rfl ⟨x,dx,zr rfl ⟨st4.raw.ins,rfl,?_⟩⟩)
   refine (zr rfl (zr rfl (zr2 rfl rfl ⟨.inl ⟨by omega,by omega⟩,zr rfl (zr2 rfl rfl ?_)⟩)))
   refine (zr rfl (zr rfl (zr2 rfl rfl ⟨.inl ⟨by omega,by omega⟩,zr rfl (zr2 rfl rfl (zr rfl (zr2 rfl rfl ?_)))⟩)))
   refine ⟨x,dx,lA,lE,lS,as,0,_,_,_,y.2.n * rooms.length + y.2.w.g,y.2.n * rooms.length + rooms.length + y.2.w.o,1,rfl,st4,p1,p2,by decide,by omega,λH5 k5 st5=>?_⟩
   rw [eL]
   have t5:=st4.tups27 k5 fr'
   have h5a:=k5 _ _ (λh=>ola (fr' _ h)) h4a
   have h5w:=k5 _ _ (λh=>olw (fr' _ h)) h4w
   have s5:=KeptM.same s4 k5 λb hb=>fr b (fr' b hb)
   refine ⟨la,zr2 rfl rfl ⟨h5a,by rw [iL_len];omega,?_⟩⟩
   refine ⟨⟨_,_,_,_,rfl⟩,Same.put fla s5,by rw [xb nlw];exact h5w,by rw [xW,iL_succ],λy' hy'=>(Tups.set h5a) _ _ (t5 _ _ (r4 y' hy')),?_⟩
   rw [eT,spr_snoc]
   exact SAt.kept (M:=[la]) st5 (KeptM.upd (.head _)) λb hb h=>ola (by rw [<-zF.mp h];exact hb)
  rintro σ H4 ⟨⟨o9,o10,o11,o12,rfl⟩,s4,_,h4a,_,st4⟩
  have eW:(ws.take (ws.map λy=>V.ref y.1).length).map (λy=>tie27 rooms.length y.2)=tW27 (ps.map (·.2)) rooms.length (ps.map (·.2)).length:=by
   rw [zA,zu,tW_map,lps,<- ew,yA];rfl
  rw [eW] at st4
  rw [zA,lws] at h4a
  have hb4:=hb.same s4
  refine (zr rfl (zr rfl (ixt hb4.book rfl ⟨tm,zr rfl ⟨.inr (SqT.of hb4.meets),?_⟩⟩)))
  rw [lpr]
  refine (zr2 rfl rfl ⟨.inl ⟨by omega,by omega⟩,zr rfl ⟨?_,?_,?_⟩⟩)
  ·show -(2 ^ 62)<=((rooms.length * ps.length:Nat):Int);omega
  ·show ((rooms.length * ps.length:Nat):Int) < 2 ^ 62;omega
  refine wd (lo:=0) (n:=rooms.length * ps.length) (λi σ H5=>(∃ o9 o10 o11 o12 o13,σ=[some (.ref b),some (.ref lt),some (.int (s0:Int)),some (.int x0),some (.int (w0:Int)),some (.int z0),some (.int (rooms.length:Int)),some (.ref x),some (.ref la),o9,o10,o11,o12,o13,none])/\Same H H5/\H5 la=some (.lst (iL (2 * ps.length)))/\SAt a.Aa H5 x dx lA lE lS as 0 (rooms.length * (ps.length + 1)) (tW27 (ps.map (·.2)) rooms.length (ps.map (·.2)).length++(List.range i).map λq=>⟨q,q + rooms.length,2⟩) (spr (tW27 (ps.map (·.2)) rooms.length (ps.map (·.2)).length++(List.range i).map λq=>⟨q,q + rooms.length,2⟩))) ⟨⟨_,_,_,_,_,rfl⟩,s4,h4a,by rw [List.range_zero,yb,zn];exact st4⟩ ?_ ?_
  ·rintro i σ H5 hi ⟨⟨p9,p10,p11,p12,p13,rfl⟩,s5,h5a,st5⟩
   rw [xU]
   have eL:(tW27 (ps.map (·.2)) rooms.length (ps.map (·.2)).length++(List.range i).map λq=>(⟨q,q + rooms.length,2⟩:Tie)).length=2 * ps.length + i:=by rw [zE,tW_len _ (zD _),zA,zA,yD]
   have e1:rooms.length * (ps.length + 1)=rooms.length * ps.length + rooms.length:=Nat.mul_succ ..
   refine (zr rfl ⟨x,dx,zr rfl ⟨st5.raw.ins,rfl,zr rfl (zr rfl (zr rfl (zr2 rfl rfl ⟨x,dx,lA,lE,lS,as,0,_,_,_,i,i + rooms.length,2,rfl,st5,by omega,by omega,by decide,by omega,λH6 k6 st6=>?_⟩)))⟩⟩)
   refine ⟨⟨_,_,_,_,_,rfl⟩,KeptM.same s5 k6 λb hb=>fr b (fr' b hb),k6 _ _ (λh=>ola (fr' _ h)) h5a,?_⟩
   rw [ties_snoc,spr_snoc]
   exact st6
  rintro σ H5 ⟨⟨p9,p10,p11,p12,p13,rfl⟩,s5,h5a,st5⟩
  have eT:tW27 (ps.map (·.2)) rooms.length (ps.map (·.2)).length++(List.range (rooms.length * ps.length)).map (λq=>(⟨q,q + rooms.length,2⟩:Tie))=ties27 (ps.map (·.2)) rooms.length:=by unfold ties27;rw [lps]
  rw [eT] at st5
  have c1:=cnt_le (ps.map (·.2)) x0
  have c2:=cnt_le (ps.map (·.2)) z0
  rw [lps] at c1 c2
  have p1:=pt_lt (W:=rooms.length) c1 hL.2.1
  have p2:=pt_lt (W:=rooms.length) c2 hL.2.2.1
  refine (zr rfl ⟨x,dx,zr rfl ⟨st5.raw.ins,rfl,?_⟩⟩)
  refine (zr rfl (zr rfl (ex6 b x0 rooms tr tm ps ⟨rfl,hb.same s5,by omega,λH6 s6=>?_⟩)))
  refine (zr rfl (zr2 rfl rfl ⟨.inl ⟨by omega,by omega⟩,zr rfl (zr2 rfl rfl ?_)⟩))
  have s06:=s5.trans s6
  refine (zr rfl (zr rfl (ex6 b z0 rooms tr tm ps ⟨rfl,hb.same s06,by omega,λH7 s7=>?_⟩)))
  refine (zr rfl (zr2 rfl rfl ⟨.inl ⟨by omega,by omega⟩,zr rfl (zr2 rfl rfl ?_)⟩))
  have s07:=s06.trans s7
  have st7:=(st5.same s6).same s7
  have h7a:=s7 _ _ (s6 _ _ h5a)
  refine ⟨x,dx,lA,lE,lS,as,0,_,_,_,cnt (ps.map (·.2)) x0 * rooms.length + s0,cnt (ps.map (·.2)) z0 * rooms.length + w0,rfl,st7,p1,p2,λe=>ne ((pt_eq hL.2.1 hL.2.2.1).mp e).2,λtot sp' tree H8 k8 st8 t0 nt tk ng cl=>?_⟩
  have m8:∀ b∈[x,lS],b∈x::lA::lE::lS::as:=λb hb=>by
   rcases zH.mp hb with rfl | hb
   ·exact .head _
   ·rw [zF.mp hb];exact .tail _ (.tail _ (.tail _ (.head _)))
  have s08:=KeptM.same s07 k8 λb hb=>fr b (m8 b hb)
  have h8a:=k8 _ _ (λh=>ola (m8 _ h)) h7a
  have se:Sent27 (ps.map (·.2)) rooms.length s0 w0 x0 z0 sp' tot (pts tree):=⟨st8.snd,λp=>by rw [nt p,net_spr,xU],tk.nod,cl,tk.src,ng⟩
  have tl:(ties27 (ps.map (·.2)) rooms.length).length=2 * ps.length + rooms.length * ps.length:=by rw [ties_len,lps]
  refine (zr rfl ⟨la,rfl,⟨_,SqL.of h8a⟩,?_⟩)
  refine comp_list (K:=K) (a:=la) (xs:=iL (2 * ps.length)) (λi τ acc H9=>(∃ t0,τ=[t0,some (.ref x)])/\acc=((List.range i).map λk=>V.int (at0 sp' (2 * k + 1)))/\H9=H8) ⟨⟨_,rfl⟩,rfl,rfl⟩ (by rw [iL_len];omega) ?_ ?_ ?_
  ·rintro i τ acc H9 ⟨⟨t0,rfl⟩,rfl,rfl⟩
   exact ⟨by rw [zA,yD];exact zD _,SqL.of h8a⟩
  ·rintro i v τ acc H9 C hv ⟨⟨t0,rfl⟩,rfl,rfl⟩ hC
   obtain ⟨hi,rfl⟩:=iL_at hv
   refine (zr rfl ⟨x,dx,zr rfl ⟨st8.raw.ins,rfl,zr rfl ⟨x,dx,lA,lE,lS,as,_,_,_,_,i,rfl,st8,by omega,hC _ _ _ ⟨⟨_,rfl⟩,?_,rfl⟩⟩⟩⟩)
   rw [yy,zK];rfl
  rintro τ acc H9 ⟨_,rfl,rfl⟩ ls fls
  rw [iL_len]
  have sA:=xa (o:=HO.lst ((List.range (2 * ps.length)).map λk=>V.int (at0 sp' (2 * k + 1)))) fls
  have hA:upd H9 ls (HO.lst ((List.range (2 * ps.length)).map λk=>V.int (at0 sp' (2 * k + 1)))) ls=some (.lst ((List.range (2 * ps.length)).map λk=>V.int (at0 sp' (2 * k + 1)))):=xW
  generalize upd H9 ls _=HA at sA hA ⊢
  have s0A:=s08.trans sA
  have hbA:=hb.same s0A
  refine (zr rfl (ixt hbA.book rfl ⟨tm,rfl,⟨_,SqT.of hbA.meets⟩,?_⟩))
  refine comp_enumT (K:=K) (a:=tm) (xs:=ps.map λa=>V.ref a.1) (λi τ acc HB=>(∃ t0 t1,τ=[t0,t1,some (.ref ls)])/\acc=gvL i (giv27 (ps.map (·.2)) sp')/\Same HA HB) ⟨⟨_,_,rfl⟩,rfl,Same.refl _⟩ (by rw [lpr];omega) ?_ ?_ ?_
  ·rintro i τ acc HB ⟨⟨t0,t1,rfl⟩,rfl,sB⟩
   exact ⟨by rw [gvL_len];exact zD _,SqT.of (sB _ _ hbA.meets)⟩
  ·rintro i v k τ acc HB C hv hk ⟨⟨t0,t1,rfl⟩,rfl,sB⟩ hC
   obtain ⟨r,hr,rfl⟩:=wL hv
   have hi:i < ps.length:=(zB.mp hr).1
   have hm:(ps.map (·.2))[i]?=some r.2:=by rw [zS,hr];rfl
   obtain ⟨b1,b2,b3,_⟩:=gd.each r.2 (zC hm)
   have sC:=sB.trans (xa (o:=HO.tup [V.int (i:Int),V.ref r.1]) hk)
   have kC:upd HB k (HO.tup [V.int (i:Int),V.ref r.1]) k=some (.tup [V.int (i:Int),V.ref r.1]):=xW
   generalize upd HB k _=HC at sC kC ⊢
   refine (un2 kC ?_)
   refine (zr rfl (zr rfl (zr rfl (zr2 rfl rfl ⟨.inl ⟨by decide,by decide⟩,?_⟩))))
   refine (zr rfl (zr rfl (zr2 rfl rfl ⟨.inl ⟨by decide,by decide⟩,zr2 rfl rfl (zr rfl ⟨ls,zr rfl ⟨SqL.of (sC _ _ hA),λlp hlp=>?_⟩⟩)⟩)))
   have ec:=cut_two (f:=λk=>V.int (at0 sp' (2 * k + 1))) (show 2 * i + 2<=2 * ps.length by omega)
   have ec:cutV ((List.range (2 * ps.length)).map λk=>V.int (at0 sp' (2 * k + 1))) (some (2 * (i:Int))) (some (2 * (i:Int) + 2))=[V.int (th27 sp' i),V.int (bk27 sp' i)]:=ec
   rw [ec]
   have sD:=sC.trans (xa (o:=HO.lst [V.int (th27 sp' i),V.int (bk27 sp' i)]) hlp)
   refine ⟨r.1,lp,r.2,th27 sp' i,bk27 sp' i,rfl,sD _ _ (hbA.rows r (zC hr)),xW,b1,by omega,hC _ _ _ ⟨⟨_,_,rfl⟩,?_,sD⟩⟩
   rw [gvL_succ]
   congr 2
   unfold giv27
   have el:lo27 (ps.map (·.2)) i=r.2.lo.toNat:=by unfold lo27;rw [hm];rfl
   have eh:hi27 (ps.map (·.2)) i=r.2.hi.toNat:=by unfold hi27;rw [hm];rfl
   rw [el,eh]
  ·rintro τ acc HB ⟨⟨t0,t1,rfl⟩,rfl,sB⟩ lc hlc
   rw [lpr]
   have sC:=s0A.trans sB
   exact q lc sp' tot (pts tree) _ (sC.trans (xa hlc)) (sC.free hlc) xW se
theorem GH:FnScope ["book", "letter", "givers", "sender", "since", "wish", "last", "holder", "chain", "number"] ["book", "letter", "givers"] (defScope Fu):=⟨rfl,rfl,rfl,by decide +kernel,rfl,by decide +kernel,by decide +kernel⟩
theorem Jo (T:Tx K mg a t_LAST_TIME t_MOST_WALKERS t_MOST_ROOM t_MOST_MEETINGS t_MOST_MANY) (B:BmAt mg base):FnOk P w K mg base CX0 2 a.BP a.CP ["book", "letter", "givers"] (spChainBy):=by
 have D1:=@Hn P w _ _ base _ _ _ _ _ _ T B
 have FG:=@GJ P w _ _ base _ _ _ _ _ _ T B
 refine T.Cg.ok GH (λvs H Q E h=>?_) (λcdv A outer s H vs Q E hr h=>?_)
 ·obtain ⟨_,_,_,_,_,_,_,_,_,_,_,_,rfl,_⟩:=h;rfl
 ·have nd:=GH.nd
  have hu:=hr.units
  obtain ⟨b,lt,lg,s0,w0,x,z,rooms,tr,tm,ps,g,rfl,hb,rn,gd,hL,hg,gi,q⟩:=h
  refine ⟨_,(@xg _ _ _ (@xj _ _ _ _ _ _ (wU (pv 1) (wD (n:=4) rfl rfl (xf (xc (i:=3) nd rfl (by first | exact Or.inl rfl | exact Or.inr rfl)) (xf (xc (i:=4) nd rfl (by first | exact Or.inl rfl | exact Or.inr rfl)) (xf (xc (i:=5) nd rfl (by first | exact Or.inl rfl | exact Or.inr rfl)) (xf (xc (i:=6) nd rfl (by first | exact Or.inl rfl | exact Or.inr rfl)) wB)))))) (@xj _ _ _ _ _ _ (xk (i:=7) nd rfl (by first | exact Or.inl rfl | exact Or.inr rfl) (pv 3)) (@xj _ _ _ _ _ _ (xk (i:=8) nd rfl (by first | exact Or.inl rfl | exact Or.inr rfl) (@wC _ _ _ _ wK)) (@xj _ _ _ _ _ _ (wV PassesOwn.never rfl (pi_range2 rfl T.b_range (@xV _ _ _ (@xX _ _ _ _ _ (xh D1 (hr.mono (by decide)) rfl T.E4 T.E6 T.E8 .nil pass0 (@xV _ _ _ (@xX _ _ _ _ _ (pv 0) (@xX _ _ _ _ _ (pv 4) xi rfl) rfl))) (@xX _ _ _ _ _ (xh D1 (hr.mono (by decide)) rfl T.E4 T.E6 T.E8 .nil pass0 (@xV _ _ _ (@xX _ _ _ _ _ (pv 0) (@xX _ _ _ _ _ (pv 6) xi rfl) rfl))) xi rfl) rfl))) (xc (i:=9) nd rfl (by first | exact Or.inl rfl | exact Or.inr rfl)) (@xg _ _ _ (@xu _ _ _ (@wA _ _ _ _ _ _ _ _ (@xq _ _ _ _ _ _ _ _ wt (@xw _ _ _ _ _ _ _ (xx rfl) (pv 2) (pv 9) (λ_ _=>rfl)) (pv 7) (nomark _)) (@xg _ _ _ (@xj _ _ _ _ _ _ (wJ (pe_bm zd zZ za wI (pv 8) (@xV _ _ _ (@xX _ _ _ _ _ (pv 9) xi rfl)))) (@xu _ _ _ (xk (i:=7) nd rfl (by first | exact Or.inl rfl | exact Or.inr rfl) (xh FG (hr.mono (by decide)) rfl T.Hs T.Hw T.HI .nil pass0 (@xV _ _ _ (@xX _ _ _ _ _ (pv 0) (@xX _ _ _ _ _ (pv 9) (@xX _ _ _ _ _ (pv 7) xi rfl) rfl) rfl))))))) xv)))) (@xu _ _ _ (@xl _ _ _ _ (pv 8)))))))),?_⟩
  have line:3010<=sizeLine:=by rw [sizeLine_eq];decide
  have n60:=gd.len
  have lps:(ps.map (·.2)).length=ps.length:=zA ..
  refine (zr rfl (un4 hL.1 ?_))
  refine (zr rfl ?_)
  refine ⟨by show 0<=sizeLine;omega,λlc hlc=>?_⟩
  have s1:=xa (o:=HO.lst []) hlc
  have h1:upd H lc (HO.lst []) lc=some (.lst []):=xW
  generalize upd H lc (HO.lst [])=H1 at *
  have c1:=cnt_le (ps.map (·.2)) x
  have c2:=cnt_le (ps.map (·.2)) z
  refine (zr rfl (zr rfl (ex6 b x rooms tr tm ps ⟨rfl,hb.same s1,by omega,λH2 s2=>?_⟩)))
  refine (zr rfl (zr rfl (ex6 b z rooms tr tm ps ⟨rfl,hb.same (s1.trans s2),by omega,λH3 s3=>?_⟩)))
  have s13:=s2.trans s3
  have h3:=s13 _ _ h1
  have s03:=s1.trans s13
  refine (zr1 rfl ⟨⟨by omega,by omega,by omega,by omega⟩,?_⟩)
  have eN:(((cnt (ps.map (·.2)) z:Nat):Int) - ((cnt (ps.map (·.2)) x:Nat):Int)).toNat=cnt (ps.map (·.2)) z - cnt (ps.map (·.2)) x:=by omega
  refine wd (lo:=((cnt (ps.map (·.2)) x:Nat):Int)) (λk σ H4=>(∃ o9,σ=[some (.ref b),some (.ref lt),some (.ref lg),some (.int (s0:Int)),some (.int x),some (.int (w0:Int)),some (.int z),some (.int ((run27 (lo27 (ps.map (·.2))) (hi27 (ps.map (·.2))) g (cnt (ps.map (·.2)) x) s0 k).2:Int)),some (.ref lc),o9])/\Same H H4/\H4 lc=some (.lst (List.map V.int (run27 (lo27 (ps.map (·.2))) (hi27 (ps.map (·.2))) g (cnt (ps.map (·.2)) x) s0 k).1))) ⟨⟨_,rfl⟩,s03,h3⟩ ?_ ?_
  ·rintro k σ H4 hk ⟨⟨o9,rfl⟩,s4,h4⟩
   have hk2:cnt (ps.map (·.2)) x + k < ps.length:=by omega
   obtain ⟨m,hm⟩:∃ m,(ps.map (·.2))[cnt (ps.map (·.2)) x + k]?=some m:=⟨_,zL (by omega)⟩
   have en:((cnt (ps.map (·.2)) x:Nat):Int) + (k:Int)=((cnt (ps.map (·.2)) x + k:Nat):Int):=by omega
   rw [en]
   have kk:=run_len27 (lo:=lo27 (ps.map (·.2))) (hi:=hi27 (ps.map (·.2))) (g:=g) (a:=cnt (ps.map (·.2)) x) (s0:=s0) (K:=k)
   by_cases c:g (cnt (ps.map (·.2)) x + k)=some (run27 (lo27 (ps.map (·.2))) (hi27 (ps.map (·.2))) g (cnt (ps.map (·.2)) x) s0 k).2
   ·have er:=run_yes c
    have gi':=gi _ _ hk2 c
    have mv:((mv27 (lo27 (ps.map (·.2))) (hi27 (ps.map (·.2))) g (cnt (ps.map (·.2)) x + k) (run27 (lo27 (ps.map (·.2))) (hi27 (ps.map (·.2))) g (cnt (ps.map (·.2)) x) s0 k).2:Nat):Int)=if ((run27 (lo27 (ps.map (·.2))) (hi27 (ps.map (·.2))) g (cnt (ps.map (·.2)) x) s0 k).2:Int)=m.lo then m.hi else m.lo:=by
     obtain ⟨b1,b2,b3,_⟩:=gd.each m (zC hm)
     have el:lo27 (ps.map (·.2)) (cnt (ps.map (·.2)) x + k)=m.lo.toNat:=by unfold lo27;rw [hm];rfl
     have eh:hi27 (ps.map (·.2)) (cnt (ps.map (·.2)) x + k)=m.hi.toNat:=by unfold hi27;rw [hm];rfl
     unfold mv27
     rw [if_pos c,el,eh]
     generalize (run27 (lo27 (ps.map (·.2))) (hi27 (ps.map (·.2))) g (cnt (ps.map (·.2)) x) s0 k).2=v
     by_cases d:v=m.lo.toNat
     ·rw [if_pos d,if_pos (by omega)];omega
     ·rw [if_neg d,if_neg (by omega)];omega
    rw [er,mv]
    generalize run27 (lo27 (ps.map (·.2))) (hi27 (ps.map (·.2))) g (cnt (ps.map (·.2)) x) s0 k=r at *
    refine (zr rfl (zr rfl (ixl (s4 _ _ hg) (wF (gvL_at hk2)) (zr rfl ?_))))
    rw [c]
    refine ⟨rfl,zr rfl (iteB1 (by simp [oG,oV]) ?_)⟩
    refine (zr rfl ⟨.inl ⟨rfl,_,SqL.of h4⟩,zr rfl ⟨lc,zr2 rfl rfl ⟨h4,by rw [zA];omega,?_⟩⟩⟩)
    have s5:Same H (upd H4 lc (.lst (List.map V.int r.1++[V.int ((cnt (ps.map (·.2)) x + k:Nat):Int)]))):=Same.put hlc s4
    have h5:upd H4 lc (.lst (List.map V.int r.1++[V.int ((cnt (ps.map (·.2)) x + k:Nat):Int)])) lc=some (.lst (List.map V.int (r.1++[((cnt (ps.map (·.2)) x + k:Nat):Int)]))):=by rw [xW,zK];rfl
    generalize upd H4 lc _=H5 at s5 h5 ⊢
    exact (zr rfl (zr rfl (zr rfl (ex8 b _ _ rooms tr tm ps m ⟨rfl,hb.same s5,hm,⟨⟨_,rfl⟩,s5,h5⟩⟩))))
   ·have er:=run_no c
    rw [er]
    generalize run27 (lo27 (ps.map (·.2))) (hi27 (ps.map (·.2))) g (cnt (ps.map (·.2)) x) s0 k=r at *
    refine (zr rfl (zr rfl (ixl (s4 _ _ hg) (wF (gvL_at hk2)) (zr rfl ?_))))
    cases e:g (cnt (ps.map (·.2)) x + k) with
    | none=>exact ⟨rfl,zr rfl (iteB0 rfl ⟨⟨_,rfl⟩,s4,h4⟩)⟩
    | some v=>
     rw [e] at c
     refine ⟨rfl,zr rfl (iteB0 (decide_eq_false λzz=>c ?_) ⟨⟨_,rfl⟩,s4,h4⟩)⟩
     have this:(v:Int)=(r.2:Int):=V.int.inj zz
     congr 1
     omega
  ·rintro σ H4 ⟨⟨o9,rfl⟩,s4,h4⟩
   rw [eN] at h4
   exact (zr rfl (q lc H4 s4 hlc h4))
theorem Fg:FnScope ["book", "letter", "givers", "one", "rest"] ["book", "letter"] (defScope Dk):=⟨rfl,rfl,rfl,by decide +kernel,rfl,by decide +kernel,by decide +kernel⟩
theorem HV (T:Tx K mg a t_LAST_TIME t_MOST_WALKERS t_MOST_ROOM t_MOST_MEETINGS t_MOST_MANY) (B:BmAt mg base):FnOk P w K mg base CX0 4 a.A7 a.B1 ["book", "letter"] (spTwoCh a.Aa):=by
 have Iv:=@Hm P w _ _ base _ _ _ _ _ _ T B
 have HU:=@Jo P w _ _ base _ _ _ _ _ _ T B
 refine T.Bw.ok Fg (λvs H Q E h=>?_) (λcdv A outer s H vs Q E hr h=>?_)
 ·obtain ⟨_,_,_,_,_,_,_,_,_,_,_,_,rfl,_⟩:=h;rfl
 ·have nd:=Fg.nd
  have hu:=hr.units
  obtain ⟨b,lt,s0,w0,x,z,rooms,tr,tm,ps,e,ns,rfl,hb,rm1,rm2,gd,hL,ne,wk,le,hn,q⟩:=h
  refine ⟨_,(@xg _ _ _ (@xj _ _ _ _ _ _ (xk (i:=2) nd rfl (by first | exact Or.inl rfl | exact Or.inr rfl) (xh Iv (hr.mono (by decide)) rfl T.Ia T.Id T.Ig .nil pass0 (@xV _ _ _ (@xX _ _ _ _ _ (pv 0) (@xX _ _ _ _ _ (pv 1) xi rfl) rfl)))) (@xj _ _ _ _ _ _ (xk (i:=3) nd rfl (by first | exact Or.inl rfl | exact Or.inr rfl) (xh HU (hr.mono (by decide)) rfl T.Hv T.HH T.HL .nil pass0 (@xV _ _ _ (@xX _ _ _ _ _ (pv 0) (@xX _ _ _ _ _ (pv 1) (@xX _ _ _ _ _ (pv 2) xi rfl) rfl) rfl)))) (@xj _ _ _ _ _ _ (ps_setComp (ix:=4) nd rfl (by first | exact Or.inl rfl | exact Or.inr rfl) (own:=["number", "giver"]) (caps:=[3]) rfl (show CompScope ["number", "giver"] [3] ["book", "letter", "givers", "one", "rest"] (defScope Dk) _ from ⟨rfl,by decide +kernel,by decide +kernel,by decide +kernel,by decide +kernel⟩) (pi_enumL rfl rfl T.b_enumerate (@xV _ _ _ (@xX _ _ _ _ _ (pv 2) xi rfl))) (λ_ _ _ _=>(wD (n:=2) rfl rfl (xf (xc (i:=0) (show List.Nodup (["number", "giver", "one"]:List Str) from by decide +kernel) rfl (by first | exact Or.inl rfl | exact Or.inr rfl)) (xf (xc (i:=1) (show List.Nodup (["number", "giver", "one"]:List Str) from by decide +kernel) rfl (by first | exact Or.inl rfl | exact Or.inr rfl)) wB)))) (λ_ _ _ _=>pts_nil) (λ_ _ _ _=>(@pe_ifExp _ _ _ _ _ _ _ _ (@xq _ _ _ _ _ _ _ _ (op_in_seq' rfl) (pv 0) (pv 2) rfl) pe_non (pv 1)))) (@xu _ _ _ (@xl _ _ _ _ (@wO _ _ _ _ _ (@xV _ _ _ (@xX _ _ _ _ _ (pv 3) (@xX _ _ _ _ _ (xh HU (hr.mono (by decide)) rfl T.Hv T.HH T.HL .nil pass0 (@xV _ _ _ (@xX _ _ _ _ _ (pv 0) (@xX _ _ _ _ _ (pv 1) (@xX _ _ _ _ _ (pv 4) xi rfl) rfl) rfl))) xi rfl) rfl))))))))),?_⟩
  have line:3010<=sizeLine:=by rw [sizeLine_eq];decide
  have n60:=gd.len
  refine (zr rfl (zr rfl (ex10 b lt s0 w0 x z rooms tr tm ps ⟨rfl,hb,rm1,rm2,gd,hL,ne,λlg sp tot S H1 s1 fg hg se=>?_⟩)))
  obtain ⟨p1,p2,p3⟩:=two_chains27 gd hL.2.1 hL.2.2.1 ne wk le hn se.so se.nt se.nd se.cl se.h0 se.hg
  refine (zr rfl (zr rfl (zr rfl (ex12 b lt lg s0 w0 x z rooms tr tm ps _ ⟨rfl,hb.same s1,by omega,gd,hL.same s1,hg,λi v _ h=>giv_in i v h,λl1 H2 s2 f1 h2=>?_⟩))))
  generalize eC1:(run27 (lo27 (ps.map (·.2))) (hi27 (ps.map (·.2))) (giv27 (ps.map (·.2)) sp) (cnt (ps.map (·.2)) x) s0 (cnt (ps.map (·.2)) z - cnt (ps.map (·.2)) x)).1=C1 at *
  have hg2:=s2 _ _ hg
  have s12:=s1.trans s2
  refine (zr rfl ⟨lg,rfl,⟨_,SqL.of hg2⟩,?_⟩)
  refine comp_enumL (K:=K) (a:=lg) (xs:=gvL ps.length (giv27 (ps.map (·.2)) sp)) (λi τ acc H5=>(∃ t0 t1,τ=[t0,t1,some (.ref l1)])/\acc=gvL i (but27 (giv27 (ps.map (·.2)) sp) C1)/\Same H2 H5) ⟨⟨_,_,rfl⟩,rfl,Same.refl _⟩ (by rw [gvL_len];omega) ?_ ?_ ?_
  ·rintro i τ acc H5 ⟨⟨t0,t1,rfl⟩,rfl,sm⟩
   exact ⟨by rw [gvL_len];exact zD _,SqL.of (sm _ _ hg2)⟩
  ·rintro i v k τ acc H5 C hx hk ⟨⟨t0,t1,rfl⟩,rfl,sm⟩ hC
   have hi:i < ps.length:=by have:=(zB.mp hx).1;rwa [gvL_len] at this
   obtain rfl:oG (giv27 (ps.map (·.2)) sp i)=v:=by rw [gvL_at hi] at hx;exact Option.some.inj hx
   have s5:=sm.trans (xa (o:=HO.tup [V.int (i:Int),oG (giv27 (ps.map (·.2)) sp i)]) hk)
   refine (un2 xW ?_)
   refine (zr rfl (zr rfl ⟨l1,zr rfl ⟨.inl (SqL.of (s5 _ _ h2)),rfl,?_,zr rfl ?_⟩⟩))
   ·rw [yp];intro y hy;obtain ⟨n,_,rfl⟩:=zQ.mp hy;rfl
   have ein:inV (.int (i:Int)) (List.map V.int C1)=decide ((i:Int)∈C1):=by
    rw [yw,decide_eq_true_eq]
    unfold inV
    rw [List.any_eq_true]
    constructor
    ·rintro ⟨y,hy,h⟩
     obtain ⟨n,hn',rfl⟩:=zQ.mp hy
     rw [eqV_int] at h
     have:=of_decide_eq_true h
     rw [<-this];exact hn'
    ·intro h
     exact ⟨_,zQ.mpr ⟨_,h,rfl⟩,by rw [eqV_int];exact decide_eq_true rfl⟩
   by_cases c:(i:Int)∈C1
   ·refine iteB1 (by show inV _ _=true;rw [ein];exact decide_eq_true c) ?_
    exact hC _ _ _ ⟨⟨_,_,rfl⟩,by rw [gvL_succ,show oG (but27 (giv27 (ps.map (·.2)) sp) C1 i)=V.non from by unfold but27;rw [if_pos c];rfl],s5⟩
   ·refine iteB0 (by show inV _ _=false;rw [ein];exact decide_eq_false c) ?_
    exact (zr rfl (hC _ _ _ ⟨⟨_,_,rfl⟩,by rw [gvL_succ,show but27 (giv27 (ps.map (·.2)) sp) C1 i=giv27 (ps.map (·.2)) sp i from by unfold but27;rw [if_neg c]],s5⟩))
  ·rintro τ acc H5 ⟨⟨t0,t1,rfl⟩,rfl,sm⟩ lc hlc
   rw [gvL_len]
   have s6:=sm.trans (xa (o:=HO.lst (gvL ps.length (but27 (giv27 (ps.map (·.2)) sp) C1))) hlc)
   have h6:upd H5 lc (HO.lst (gvL ps.length (but27 (giv27 (ps.map (·.2)) sp) C1))) lc=some (.lst (gvL ps.length (but27 (giv27 (ps.map (·.2)) sp) C1))):=xW
   generalize upd H5 lc _=H6 at s6 h6 ⊢
   have s06:=s12.trans s6
   refine (zr rfl (zr rfl (zr rfl (zr rfl (ex12 b lt lc s0 w0 x z rooms tr tm ps _ ⟨rfl,hb.same s06,by omega,gd,hL.same s06,h6,?_,λl2 H7 s7 f2 h7=>?_⟩)))))
   ·intro i v _ h
    unfold but27 at h
    split at h
    ·cases h
    ·exact giv_in i v h
   refine ⟨by show 2<=sizeLine;omega,λt ht=>?_⟩
   have s8:=s7.trans (xa (o:=HO.tup [V.ref l1,V.ref l2]) ht)
   have h2':=s8 _ _ (s6 _ _ h2)
   refine q t l1 l2 _ _ _ (s06.trans s8) xW ⟨?_,s1.free f1,s06.free f2,h2',?_,p1,p2,p3⟩
   ·intro e;rw [<-e,s6 _ _ h2] at f2;cases f2
   ·exact xa ht _ _ h7
theorem Iz:FnScope ["book", "letter", "sender", "since", "wish", "last", "chain", "number", "rest", "one", "other"] ["book", "letter"] (defScope Hl):=⟨rfl,rfl,rfl,by decide +kernel,rfl,by decide +kernel,by decide +kernel⟩
theorem KK (T:Tx K mg a t_LAST_TIME t_MOST_WALKERS t_MOST_ROOM t_MOST_MEETINGS t_MOST_MANY) (B:BmAt mg base):FnOk P w K mg base CX0 6 a.C7 a.DX ["book", "letter"] (spStands a.tP lamPos):=by
 have CS:=@D8 P w _ _ base _ _ _ _ _ _ T B
 have DZ:=@FT P w _ _ base _ _ _ _ _ _ T B
 have Dy:=@GK P w _ _ base _ _ _ _ _ _ T B
 have Jg:=@HV P w _ _ base _ _ _ _ _ _ T B
 refine T.Dz.ok Iz (λvs H Q E h=>?_) (λcdv A outer s H vs Q E hr h=>?_)
 ·obtain ⟨_,_,_,_,_,_,_,_,_,_,rfl,_⟩:=h;rfl
 ·have nd:=Iz.nd
  have hu:=hr.units
  obtain ⟨b,lt,s0,w0,x0,z0,rooms,tr,tm,ps,rfl,hb,rm1,rm2,rm9,gd,hL,mt,q⟩:=h
  refine ⟨_,(@xg _ _ _ (@xj _ _ _ _ _ _ (wU (pv 1) (wD (n:=4) rfl rfl (xf (xc (i:=2) nd rfl (by first | exact Or.inl rfl | exact Or.inr rfl)) (xf (xc (i:=3) nd rfl (by first | exact Or.inl rfl | exact Or.inr rfl)) (xf (xc (i:=4) nd rfl (by first | exact Or.inl rfl | exact Or.inr rfl)) (xf (xc (i:=5) nd rfl (by first | exact Or.inl rfl | exact Or.inr rfl)) wB)))))) (@xj _ _ _ _ _ _ (xk (i:=6) nd rfl (by first | exact Or.inl rfl | exact Or.inr rfl) (xh Dy (hr.mono (by decide)) rfl T.Ea T.Ec T.Ef .nil pass0 (@xV _ _ _ (@xX _ _ _ _ _ (pv 0) (@xX _ _ _ _ _ (pv 1) xi rfl) rfl)))) (@xj _ _ _ _ _ _ (@wA _ _ _ _ _ _ _ _ (pt_cmp (@pc_isN _ _ _ _ _ (pv 6))) (@xg _ _ _ (@xu _ _ _ (@xl _ _ _ _ (@wO _ _ _ _ _ (@xV _ _ _ (@xX _ _ _ _ _ pe_str (@xX _ _ _ _ _ (xh DZ (hr.mono (by decide)) rfl T.DT T.DU T.DV .nil pass0 (@xV _ _ _ (@xX _ _ _ _ _ (pv 0) (@xX _ _ _ _ _ (pv 2) (@xX _ _ _ _ _ (pv 3) xi rfl) rfl) rfl))) xi rfl) rfl)))))) xv) (@xj _ _ _ _ _ _ (@wA _ _ _ _ _ _ _ _ (@xq _ _ _ _ _ _ _ _ wt (pv 2) (pv 4) (nomark _)) (@xg _ _ _ (@xu _ _ _ (@xl _ _ _ _ (@wO _ _ _ _ _ (@xV _ _ _ (@xX _ _ _ _ _ pe_str (@xX _ _ _ _ _ (@wC _ _ _ _ wK) (@xX _ _ _ _ _ (@wC _ _ _ _ wK) xi rfl) rfl) rfl)))))) xv) (@xj _ _ _ _ _ _ (wV PassesOwn.never rfl (@wN _ _ _ _ _ rfl (pv 6)) (xc (i:=7) nd rfl (by first | exact Or.inl rfl | exact Or.inr rfl)) (@xg _ _ _ (@xj _ _ _ _ _ _ (xk (i:=8) nd rfl (by first | exact Or.inl rfl | exact Or.inr rfl) (xh CS (hr.mono (by decide)) rfl T.EZ T.E5 T.E7 .nil pass0 (@xV _ _ _ (@xX _ _ _ _ _ (pv 0) (@xX _ _ _ _ _ (pv 7) xi rfl) rfl)))) (@xu _ _ _ (@wA _ _ _ _ _ _ _ _ (pt_cmp (@pc_isN _ _ _ _ _ (xh Dy (hr.mono (by decide)) rfl T.Ea T.Ec T.Ef .nil pass0 (@xV _ _ _ (@xX _ _ _ _ _ (pv 8) (@xX _ _ _ _ _ (pv 1) xi rfl) rfl))))) (@xg _ _ _ (@xu _ _ _ (@xl _ _ _ _ (@wO _ _ _ _ _ (@xV _ _ _ (@xX _ _ _ _ _ pe_str (@xX _ _ _ _ _ (pv 7) (@xX _ _ _ _ _ (xh DZ (hr.mono (by decide)) rfl T.DT T.DU T.DV .nil pass0 (@xV _ _ _ (@xX _ _ _ _ _ (pv 8) (@xX _ _ _ _ _ (pv 2) (@xX _ _ _ _ _ (pv 3) xi rfl) rfl) rfl))) xi rfl) rfl) rfl)))))) xv))))) (@xj _ _ _ _ _ _ (wU (xh Jg (hr.mono (by decide)) rfl T.IR T.IU T.IY .nil pass0 (@xV _ _ _ (@xX _ _ _ _ _ (pv 0) (@xX _ _ _ _ _ (pv 1) xi rfl) rfl))) (wD (n:=2) rfl rfl (xf (xc (i:=9) nd rfl (by first | exact Or.inl rfl | exact Or.inr rfl)) (xf (xc (i:=10) nd rfl (by first | exact Or.inl rfl | exact Or.inr rfl)) wB)))) (@xu _ _ _ (@xl _ _ _ _ (@wO _ _ _ _ _ (@xV _ _ _ (@xX _ _ _ _ _ pe_str (@xX _ _ _ _ _ (pv 9) (@xX _ _ _ _ _ (pv 10) xi rfl) rfl) rfl)))))))))))),?_⟩
  have line:3010<=sizeLine:=by rw [sizeLine_eq];decide
  have n60:=gd.len
  have lps:(ps.map (·.2)).length=ps.length:=zA ..
  refine ⟨_,rfl,lt,_,rfl,SqT.of hL.1,rfl,_,_,rfl,_,_,rfl,_,_,rfl,_,_,rfl,rfl,?_⟩
  refine ⟨_,rfl,_,rfl,b,lt,s0,w0,x0,z0,rooms,tr,tm,ps,rfl,hb,by omega,gd,hL,λno H1 s1=>?_,λe l ns H1 fe le fl s1 h1 nl wk=>?_⟩
  ·refine ⟨_,rfl,_,rfl,iteB1 rfl ⟨_,rfl,_,rfl,_,rfl,b,s0,x0,rooms,tr,tm,ps,rfl,hL.2.1,hb.same s1,by omega,gd,λl H2 fl s2 hl2=>⟨by show 2<=sizeLine;omega,λt ht=>?_⟩⟩⟩
   have s3:=(s1.trans s2).trans (xa (o:=HO.tup [V.str "none", V.ref l]) ht)
   exact q t _ (λx u _ e=>s3 _ _ e) (L2.MT.same mt s3) (.inl ⟨no,l,xW,s1.free fl,xa ht _ _ hl2⟩)
  have hb1:=hb.same s1
  have mt1:=L2.MT.same mt s1
  have yes:upto (fwd (ps.map (·.2)) (lone s0 x0) w0) z0=true:=upto_iff.mpr ⟨e,fe,le⟩
  have xz:x0<=z0:=by have:=walk_late wk;omega
  refine ⟨_,rfl,_,rfl,iteB0 rfl ⟨_,rfl,_,rfl,rfl,_,rfl,?_⟩⟩
  by_cases sw:s0=w0
  ·refine iteB1 (by rw [sw];exact decide_eq_true rfl) ?_
   refine ⟨by show 0<=sizeLine;omega,λl1 hl1=>⟨by show 0<=sizeLine;omega,λl2 hl2=>⟨by show 3<=sizeLine;omega,λt ht=>?_⟩⟩⟩
   have k1:=xa (o:=HO.lst []) hl1
   have k2:=xa (o:=HO.lst []) hl2
   have k3:=xa (o:=HO.tup [V.str "two", V.ref l1,V.ref l2]) ht
   have s4:=s1.trans (k1.trans (k2.trans k3))
   refine q t _ (λx u _ e=>s4 _ _ e) (L2.MT.same mt s4) (.inr (.inr ⟨l1,l2,[],[],xW,two_empty sw xz ?_ (s1.free hl1) ((s1.trans k1).free hl2) (k3 _ _ (k2 _ _ xW)) (k3 _ _ xW)⟩))
   intro z;rw [<-z,xW] at hl2;cases hl2
  ·refine iteB0 (decide_eq_false λz=>sw (by have:=V.int.inj z;omega)) ?_
   refine ⟨_,rfl,l,rfl,⟨_,SqL.of h1⟩,?_⟩
   refine wr (K:=K) (a:=l) (xs:=List.map V.int ns) (λi σ H5=>(∃ o7 o8,σ=[some (.ref b),some (.ref lt),some (.int (s0:Int)),some (.int x0),some (.int (w0:Int)),some (.int z0),some (.ref l),o7,o8,none,none])/\But a.tP H1 H5/\MT a.tP lamPos lamQ H5/\∀ n:Nat,(n:Int)∈ns.take i->upto (fwd ((ps.map (·.2)).eraseIdx n) (lone s0 x0) w0) z0=true) ⟨⟨_,_,rfl⟩,But.refl _ _,mt1,λn h=>nomatch h⟩ (λi σ H5 _ h=>MT.seq mt1 h.2.1 (SqL.of h1)) ?_ ?_
   ·rintro i v σ H5 hv ⟨⟨o7,o8,rfl⟩,b5,mt5,all5⟩
    obtain ⟨n,hn,rfl⟩:=wL hv
    obtain ⟨k,m,rfl,hm⟩:=walk_each27 wk n (zC hn)
    have hk:k < ps.length:=by have:=(zB.mp hm).1;rwa [lps] at this
    have t5:=MT.tups' mt1 b5
    have hb5:=hb1.tups t5
    refine ⟨_,rfl,_,rfl,b,k,rooms,tr,tm,ps,rfl,hb5,hk,rm1,rm2,rm9,gd,mt5,λb' tr' tm' ps' H6 b6 mt6 hb6 e6=>?_⟩
    have gd6:Good rooms.length (ps'.map (·.2)):=by rw [e6];exact gd.sub (yM _ _)
    have hL1:=hL.same s1
    have hL6:LetAt H6 lt rooms.length s0 w0 x0 z0:=⟨(MT.tups' mt5 b6) _ _ (t5 _ _ hL1.1),hL.2⟩
    have b16:But a.tP H1 H6:=b5.trans b6
    refine ⟨_,rfl,_,rfl,b',lt,s0,w0,x0,z0,rooms,tr',tm',ps',rfl,hb6,by omega,gd6,hL6,λno H7 s7=>?_,λe2 l2 ns2 H7 fe2 le2 _ s7 _ _ _=>?_⟩
    ·refine ⟨_,rfl,iteB1 rfl ⟨_,rfl,_,rfl,_,rfl,_,rfl,b',s0,x0,rooms,tr',tm',ps',rfl,hL.2.1,hb6.same s7,by omega,gd6,λl3 H8 f3 s8 h8=>⟨by show 3<=sizeLine;omega,λt ht=>?_⟩⟩⟩
     have k3:=xa (o:=HO.tup [V.str "one", V.int (k:Int),V.ref l3]) ht
     have s68:=(s7.trans s8).trans k3
     have bb:But a.tP H _:=λx u n e=>s68 _ _ (b16 x u n (s1 _ _ e))
     rw [e6] at no h8
     exact q t _ bb (L2.MT.same mt6 s68) (.inr (.inl ⟨yes,k,l3,by rw [lps];exact hk,no,xW,s1.free (MT.free mt6 b16 (s7.free f3)),k3 _ _ h8⟩))
    ·refine ⟨_,rfl,iteB0 rfl ⟨⟨_,_,rfl⟩,λx u n e=>s7 _ _ (b16 x u n e),L2.MT.same mt6 s7,λn hn'=>?_⟩⟩
     rw [yq,hn] at hn'
     rcases zT.mp hn' with h | h
     ·exact all5 n h
     ·have:(n:Int)=(k:Int):=by simpa using h
      obtain rfl:n=k:=by omega
      rw [<-e6];exact upto_iff.mpr ⟨e2,fe2,le2⟩
   ·rintro σ H5 ⟨⟨o7,o8,rfl⟩,b5,mt5,all5⟩
    rw [zA,zu] at all5
    have t5:=MT.tups' mt1 b5
    have hb5:=hb1.tups t5
    have hL1:=hL.same s1
    have hL5:LetAt H5 lt rooms.length s0 w0 x0 z0:=⟨t5 _ _ hL1.1,hL.2⟩
    refine ⟨_,rfl,_,rfl,b,lt,s0,w0,x0,z0,rooms,tr,tm,ps,e,ns,rfl,hb5,rm1,rm2,gd,hL5,sw,wk,le,all5,λt l1 l2 c1 c2 H6 s6 ht pr=>?_⟩
    refine ⟨t,_,rfl,SqT.of ht,rfl,_,_,rfl,_,_,rfl,rfl,?_⟩
    refine ⟨_,rfl,_,rfl,by show 3<=sizeLine;omega,λt2 ht2=>?_⟩
    have k3:=xa (o:=HO.tup [V.str "two", V.ref l1,V.ref l2]) ht2
    have s7:=s6.trans k3
    exact q t2 _ (λx u n e=>s7 _ _ (b5 x u n (s1 _ _ e))) (L2.MT.same mt5 s7) (.inr (.inr ⟨l1,l2,c1,c2,xW,(pr.same k3).to λl h=>s1.free (MT.free mt5 b5 h)⟩))
theorem Hi:FnScope ["book", "rest", "letter"] ["book", "rest", "letter"] (defScope F8):=⟨rfl,rfl,rfl,by decide +kernel,rfl,by decide +kernel,by decide +kernel⟩
theorem JX (T:Tx K mg a t_LAST_TIME t_MOST_WALKERS t_MOST_ROOM t_MOST_MEETINGS t_MOST_MANY) (B:BmAt mg base):FnOk P w K mg base CX0 6 a.Ct a.Dq ["book", "rest", "letter"] (spIsLost):=by
 have Dy:=@GK P w _ _ base _ _ _ _ _ _ T B
 refine T.CW.ok Hi (λvs H Q E h=>?_) (λcdv A outer s H vs Q E hr h=>?_)
 ·obtain ⟨_,_,_,_,_,_,_,_,_,_,_,rfl,_⟩:=h;rfl
 ·have nd:=Hi.nd
  have hu:=hr.units
  obtain ⟨b,c,x,rooms,tr,tm,ps,tr2,tm2,ps2,n,rfl,hb,hc,rn,gd,gd2,hx,e,q⟩:=h
  refine ⟨_,(@xg _ _ _ (@xu _ _ _ (@xl _ _ _ _ (@pe_and _ _ _ _ _ _ _ (pe_cmp (@pc_notN _ _ _ _ _ (xh Dy (hr.mono (by decide)) rfl T.Ea T.Ec T.Ef .nil pass0 (@xV _ _ _ (@xX _ _ _ _ _ (pv 0) (@xX _ _ _ _ _ (pv 2) xi rfl) rfl))))) (@pe_one _ _ _ _ _ (pe_cmp (@pc_isN _ _ _ _ _ (xh Dy (hr.mono (by decide)) rfl T.Ea T.Ec T.Ef .nil pass0 (@xV _ _ _ (@xX _ _ _ _ _ (pv 1) (@xX _ _ _ _ _ (pv 2) xi rfl) rfl)))))))))),?_⟩
  refine (zr rfl (zr rfl (ex10 b x.1 x.2.s x.2.w x.2.a x.2.z rooms tr tm ps ⟨rfl,hb,rn,gd,hx,λno H1 s1=>?_,λee l ns H1 fe le hl s1 h1 hn wk=>?_⟩)))
  ·refine (zr rfl (iteB0 rfl ?_))
   have:=q H1 s1
   rw [show lostB (ps.map (·.2)) n x.2=false from by unfold lostB comesB;rw [no];rfl] at this
   exact this
  ·have yes:comesB (ps.map (·.2)) x.2=true:=by unfold comesB;rw [fe];simp [upto,le]
   refine (zr rfl (iteB1 rfl (zr rfl (zr rfl ⟨c,x.1,x.2.s,x.2.w,x.2.a,x.2.z,rooms,tr2,tm2,ps2,rfl,hc.same s1,rn,gd2,hx.tups (Tups.same s1),λno H2 s2=>?_,λe2 l2 ns2 H2 fe2 le2 hl2 s2 h2 hn2 wk2=>?_⟩))))
   ·have:=q H2 (s1.trans s2)
    rw [show lostB (ps.map (·.2)) n x.2=true from by unfold lostB;rw [yes,<- e];unfold comesB;rw [no];rfl] at this
    exact this
   ·have:=q H2 (s1.trans s2)
    rw [show lostB (ps.map (·.2)) n x.2=false from by unfold lostB;rw [yes,<- e];unfold comesB;rw [fe2];simp [upto,le2]] at this
    exact this
theorem KD:FnScope ["book", "letters", "meeting", "rest"] ["book", "letters", "meeting"] (defScope IJ):=⟨rfl,rfl,rfl,by decide +kernel,rfl,by decide +kernel,by decide +kernel⟩
theorem Lk (T:Tx K mg a t_LAST_TIME t_MOST_WALKERS t_MOST_ROOM t_MOST_MEETINGS t_MOST_MANY) (B:BmAt mg base):FnOk P w K mg base CX0 7 a.EV a.Gv ["book", "letters", "meeting"] (spLost a.tP lamPos):=by
 have CS:=@D8 P w _ _ base _ _ _ _ _ _ T B
 have K2:=@JX P w _ _ base _ _ _ _ _ _ T B
 refine T.FI.ok KD (λvs H Q E h=>?_) (λcdv A outer s H vs Q E hr h=>?_)
 ·obtain ⟨_,_,_,_,_,_,_,_,rfl,_⟩:=h;rfl
 ·have nd:=KD.nd
  have hu:=hr.units
  obtain ⟨b,l,n,rooms,tr,tm,ps,ls,rfl,hb,hn,rm1,rm2,rm9,gd,hL,l100,mt,q⟩:=h
  refine ⟨_,(@xg _ _ _ (@xj _ _ _ _ _ _ (xk (i:=3) nd rfl (by first | exact Or.inl rfl | exact Or.inr rfl) (xh CS (hr.mono (by decide)) rfl T.EZ T.E5 T.E7 .nil pass0 (@xV _ _ _ (@xX _ _ _ _ _ (pv 0) (@xX _ _ _ _ _ (pv 2) xi rfl) rfl)))) (@xu _ _ _ (@xl _ _ _ _ (pe_comp (own:=["number", "letter"]) (caps:=[0,3]) rfl (show CompScope ["number", "letter"] [0,3] ["book", "letters", "meeting", "rest"] (defScope IJ) _ from ⟨rfl,by decide +kernel,by decide +kernel,by decide +kernel,by decide +kernel⟩) (pi_enumL rfl rfl T.b_enumerate (@xV _ _ _ (@xX _ _ _ _ _ (pv 1) xi rfl))) (λ_ _ _ _=>(wD (n:=2) rfl rfl (xf (xc (i:=0) (show List.Nodup (["number", "letter", "book", "rest"]:List Str) from by decide +kernel) rfl (by first | exact Or.inl rfl | exact Or.inr rfl)) (xf (xc (i:=1) (show List.Nodup (["number", "letter", "book", "rest"]:List Str) from by decide +kernel) rfl (by first | exact Or.inl rfl | exact Or.inr rfl)) wB)))) (λ_ _ _ _=>pts_one (wT (xh K2 (hr.mono (by decide)) rfl T.KM T.KO T.KR .nil pass0 (@xV _ _ _ (@xX _ _ _ _ _ (pv 2) (@xX _ _ _ _ _ (pv 3) (@xX _ _ _ _ _ (pv 1) xi rfl) rfl) rfl))))) (λ_ _ _ _=>(pv 0))))))),?_⟩
  have line:=line9
  refine (zr rfl (zr rfl (ex6 b n rooms tr tm ps ⟨rfl,hb,hn,rm1,rm2,rm9,gd,mt,λb' tr' tm' ps' H1 b1 mt1 hb' eps=>?_⟩)))
  have t1:=MT.tups' mt b1
  have hb1:=hb.tups t1
  have hl1:=MT.keep mt b1 hL.1 (by intro ys z;cases z)
  have gd':Good rooms.length (ps'.map (·.2)):=by rw [eps];exact gd.sub (yM _ _)
  refine (zr rfl ⟨l,rfl,⟨_,SqL.of hl1⟩,?_⟩)
  refine comp_enumL (K:=K) (a:=l) (xs:=ls.map λx=>V.ref x.1) (λi τ acc H5=>(∃ t0 t1,τ=[t0,t1,some (.ref b),some (.ref b')])/\acc=List.map V.int (pick (lostB (ps.map (·.2)) n) (ls.map (·.2)) i)/\Same H1 H5) ⟨⟨_,_,rfl⟩,rfl,Same.refl _⟩ (by rw [zA];omega) ?_ ?_ ?_
  ·rintro i τ acc H5 ⟨⟨t0,t1,rfl⟩,rfl,sm⟩
   exact ⟨by rw [zA];exact pick_len _ _ _,SqL.of (sm _ _ hl1)⟩
  ·rintro i x k τ acc H5 C hx hk ⟨⟨t0,t1',rfl⟩,rfl,sm⟩ hC
   obtain ⟨r,hr,rfl⟩:=wL hx
   have hm:(ls.map (·.2))[i]?=some r.2:=by rw [zS,hr];rfl
   have s2:=sm.trans (xa (o:=HO.tup [V.int (i:Int),V.ref r.1]) hk)
   refine (un2 xW ?_)
   refine (zr rfl (zr rfl (zr rfl (ex11 b b' r rooms tr tm ps tr' tm' ps' n ⟨rfl,hb1.same s2,hb'.same s2,by omega,gd,gd',((hL.2 r (zC hr)).tups t1).tups (Tups.same s2),eps,λH6 s6=>(zr rfl ?_)⟩))))
   cases c:lostB (ps.map (·.2)) n r.2 with
   | true=>exact (zr rfl (hC _ _ _ ⟨⟨_,_,rfl⟩,by rw [pick_yes hm c,zK];rfl,s2.trans s6⟩))
   | false=>exact hC _ _ _ ⟨⟨_,_,rfl⟩,by rw [pick_no hm c],s2.trans s6⟩
  ·rintro τ acc H5 ⟨⟨t0,t1',rfl⟩,rfl,sm⟩ lc hlc
   rw [zA]
   have s2:=sm.trans (xa (o:=HO.lst (List.map V.int (pick (lostB (ps.map (·.2)) n) (ls.map (·.2)) ls.length))) hlc)
   refine q lc _ (λx u n e=>s2 _ _ (b1 x u n e)) (L2.MT.same mt1 s2) ?_ xW
   cases e:H lc with
   | none=>rfl
   | some o=>
    by_cases z:lc=a.tP
    ·rcases mt1 with m | ⟨_,m,_⟩ <;> (have:=sm _ _ m;rw [<-z,hlc] at this;cases this)
    ·have:=sm _ _ (b1 _ _ z e)
     rw [hlc] at this;cases this
theorem GD:FnScope ["book", "letter", "thing", "sender", "since", "wish", "last", "holder", "time", "number", "one", "other", "when", "many"] ["book", "letter", "thing"] (defScope Fp):=⟨rfl,rfl,rfl,by decide +kernel,rfl,by decide +kernel,by decide +kernel⟩
theorem Jl (T:Tx K mg a t_LAST_TIME t_MOST_WALKERS t_MOST_ROOM t_MOST_MEETINGS t_MOST_MANY) (B:BmAt mg base):FnOk P w K mg base CX0 5 a.BL a.CK ["book", "letter", "thing"] (spIsChain):=by
 have B8:=@C6 P w _ _ base _ _ _ _ _ _ T B
 have FG:=@GJ P w _ _ base _ _ _ _ _ _ T B
 have EW:=@FS P w _ _ base _ _ _ _ _ _ T B
 refine T.Cc.ok GD (λvs H Q E h=>?_) (λcdv A outer s H vs Q E hr h=>?_)
 ·obtain ⟨b,lt,lc,_,_,_,_,_,_,_,_,_,_,rfl,_⟩:=h;rfl
 ·have nd:=GD.nd
  have hu:=hr.units
  obtain ⟨b,lt,lc,s0,w0,a0,z0,e0,rooms,tr,tm,ps,ns,rfl,hb,gd,hL,hc,wk0,lez,q⟩:=h
  refine ⟨_,(@xg _ _ _ (@xj _ _ _ _ _ _ (@wA _ _ _ _ _ _ _ _ (@PW.pt _ _ _ (@pw_or _ _ _ _ _ _ _ (@wY _ _ _ _ (wT (xh EW (hr.mono (by decide)) rfl T.GM T.GP T.GS .nil pass0 (@xV _ _ _ (@xX _ _ _ _ _ (pv 0) (@xX _ _ _ _ _ (pv 1) xi rfl) rfl))))) (@pw_or1 _ _ _ _ (@wY _ _ _ _ (wT (xp (wb) (by rfl) T.b_isinstance zw (@xV _ _ _ (@xX _ _ _ _ _ (pv 2) (@xX _ _ _ _ _ (pe_bltn (v:=V.ty "list") rfl T.b_list PyProof.Rows.boot_list rfl) xi rfl) rfl)))))))) (@xg _ _ _ (@xu _ _ _ (@xl _ _ _ _ pe_bl))) xv) (@xj _ _ _ _ _ _ (wU (pv 1) (wD (n:=4) rfl rfl (xf (xc (i:=3) nd rfl (by first | exact Or.inl rfl | exact Or.inr rfl)) (xf (xc (i:=4) nd rfl (by first | exact Or.inl rfl | exact Or.inr rfl)) (xf (xc (i:=5) nd rfl (by first | exact Or.inl rfl | exact Or.inr rfl)) (xf (xc (i:=6) nd rfl (by first | exact Or.inl rfl | exact Or.inr rfl)) wB)))))) (@xj _ _ _ _ _ _ (xk (i:=7) nd rfl (by first | exact Or.inl rfl | exact Or.inr rfl) (pv 3)) (@xj _ _ _ _ _ _ (xk (i:=8) nd rfl (by first | exact Or.inl rfl | exact Or.inr rfl) (pv 4)) (@xj _ _ _ _ _ _ (wV PassesOwn.never rfl (@wN _ _ _ _ _ rfl (pv 2)) (xc (i:=9) nd rfl (by first | exact Or.inl rfl | exact Or.inr rfl)) (@xg _ _ _ (@xj _ _ _ _ _ _ (@wA _ _ _ _ _ _ _ _ (@wY _ _ _ _ (wT (xh B8 (hr.mono (by decide)) rfl T.Dh T.Di T.Dj .nil pass0 (@xV _ _ _ (@xX _ _ _ _ _ (pv 0) (@xX _ _ _ _ _ (pv 9) xi rfl) rfl))))) (@xg _ _ _ (@xu _ _ _ (@xl _ _ _ _ pe_bl))) xv) (@xj _ _ _ _ _ _ (wU (@xw _ _ _ _ _ _ _ (xy rfl) (@xw _ _ _ _ _ _ _ (xy rfl) (pv 0) xY (λ_ _=>rfl)) (pv 9) (λ_ _=>rfl)) (wD (n:=4) rfl rfl (xf (xc (i:=10) nd rfl (by first | exact Or.inl rfl | exact Or.inr rfl)) (xf (xc (i:=11) nd rfl (by first | exact Or.inl rfl | exact Or.inr rfl)) (xf (xc (i:=12) nd rfl (by first | exact Or.inl rfl | exact Or.inr rfl)) (xf (xc (i:=13) nd rfl (by first | exact Or.inl rfl | exact Or.inr rfl)) wB)))))) (@xj _ _ _ _ _ _ (@wA _ _ _ _ _ _ _ _ (@PW.pt _ _ _ (@pw_or _ _ _ _ _ _ _ (@xq _ _ _ _ _ _ _ _ op_notIn_seq (pv 7) (@wO _ _ _ _ _ (@xV _ _ _ (@xX _ _ _ _ _ (pv 10) (@xX _ _ _ _ _ (pv 11) xi rfl) rfl))) rfl) (@pw_or1 _ _ _ _ (@xq _ _ _ _ _ _ _ _ op_le (pv 12) (pv 8) (nomark _))))) (@xg _ _ _ (@xu _ _ _ (@xl _ _ _ _ pe_bl))) xv) (@xj _ _ _ _ _ _ (xk (i:=7) nd rfl (by first | exact Or.inl rfl | exact Or.inr rfl) (xh FG (hr.mono (by decide)) rfl T.Hs T.Hw T.HI .nil pass0 (@xV _ _ _ (@xX _ _ _ _ _ (pv 0) (@xX _ _ _ _ _ (pv 9) (@xX _ _ _ _ _ (pv 7) xi rfl) rfl) rfl)))) (@xu _ _ _ (xk (i:=8) nd rfl (by first | exact Or.inl rfl | exact Or.inr rfl) (pv 12))))))))) (@xu _ _ _ (@xl _ _ _ _ (@pe_and _ _ _ _ _ _ _ (@wj _ _ _ _ _ _ _ _ wt (pv 7) (pv 5) (nomark _)) (@pe_one _ _ _ _ _ (@wj _ _ _ _ _ _ _ _ op_le (pv 8) (pv 6) (nomark _)))))))))))),?_⟩
  have line:=line9
  have hlt:=hL.1
  refine (zr rfl (zr rfl (ex7 b (.ref lt) _ rooms tr tm ps ⟨rfl,hb,hL.th,zr rfl (iteB0 (by rw [hL.yes];rfl) (zr rfl ⟨_, "list", "list", rfl,tyS_lst hc,.inr (.inr (.inl rfl)),zr rfl (iteB0 rfl ?_)⟩))⟩)))
  refine (zr rfl (un4 hlt ?_))
  refine (zr rfl (zr rfl (zr rfl ⟨lc,rfl,⟨_,SqL.of hc⟩,?_⟩)))
  refine wr (K:=K) (a:=lc) (xs:=List.map V.int ns) (λj σ H4=>(∃ v:Nat,∃ t A:Int,∃ v9 v10 v11 v12 v13,σ=[some (.ref b),some (.ref lt),some (.ref lc),some (.int s0),some (.int a0),some (.int w0),some (.int z0),some (.int v),some (.int t),v9,v10,v11,v12,v13]/\walkM (ps.map (·.2)) v t A (ns.drop j)=some (w0,e0))/\Same H H4)
   ⟨⟨s0,a0,-1,_,_,_,zr1 rfl wk0⟩,Same.refl _⟩ (λj σ H4 _ h4=>SqL.of (h4.2 _ _ hc)) ?_ ?_
  ·rintro j x σ H4 hx ⟨⟨v,t,A,v9,v10,v11,v12,v13,rfl,wk⟩,sm⟩
   obtain ⟨n,hn,rfl⟩:=wL hx
   have dr:ns.drop j=n::ns.drop (j + 1):=by
    obtain ⟨h1,h2⟩:=zB.mp hn
    rw [List.drop_eq_getElem_cons h1,h2]
   rw [dr] at wk
   obtain ⟨m,hm,an,n0,vi,tm',wk⟩:=we wk
   obtain ⟨k,rfl⟩:=zk n0
   rw [zh] at hm
   have hk:k < ps.length:=by
    have:=(zB.mp hm).1
    simpa using this
   have em:ps[k].2=m:=by
    have hm2:=hm
    rw [zS,zL hk] at hm2
    exact Option.some.inj hm2
   have hb4:=hb.same sm
   have hrow:=hb4.rows _ (zj hk)
   rw [em] at hrow
   obtain ⟨b1,b2,b3,_⟩:=gd.each m (zC hm)
   refine (zr rfl (zr rfl ⟨b,.int k,ex5 ("int") rooms tr tm ps ⟨rfl,hb4,rfl,zr rfl (iteB0 ?_ ?_)⟩⟩))
   ·have:inB 0 ((ps.length:Int) - 1) (.int (k:Int))=true:=by
     simp only [inB,yd,decide_eq_true_eq];omega
    rw [this];rfl
   refine (zr rfl (ixt hb4.book rfl (zr rfl (ixt hb4.meets (wF (v:=V.ref ps[k].1) (by simp [hk])) (un4 hrow ?_)))))
   have vlo:(m.lo=(v:Int)\/m.hi=(v:Int)):=by
    rcases vi with rfl | rfl
    ·exact .inl (yS b1).symm
    ·exact .inr (yS (by omega)).symm
   refine (zr rfl (zr rfl (zr rfl ⟨by show 2<=sizeLine;omega,λtt htt=>⟨tt,[.int m.lo,.int m.hi],rfl,.inr (SqT.of xW),rfl,rfl,zr rfl (iteB0 ?_ (zr rfl (zr rfl (zr2 rfl rfl (zr rfl (iteD (λc=>absurd c (by omega)) (λc=>?_)))))))⟩⟩)))
   ·show (!inV (.int (v:Int)) [.int m.lo,.int m.hi])=false
    rw [inV_two]
    rcases vlo with h | h
    ·rw [decide_eq_true h];rfl
    ·rw [decide_eq_true h,Bool.or_true];rfl
   have ev:(if (v:Int)=m.lo then m.hi else m.lo)=((if v=m.lo.toNat then m.hi.toNat else m.lo.toNat:Nat):Int):=by
    split <;> split <;> omega
   refine (zr rfl (zr rfl (zr rfl (ex8 b k v rooms tr tm ps m ⟨rfl,hb4.same (xa htt),hm,(zr rfl ⟨⟨_,m.t,(k:Int),some (.int k),some (.int m.lo),some (.int m.hi),some (.int m.t),some (.int m.m),?_,wk⟩,sm.trans (xa htt)⟩)⟩))))
   rw [<-ev];rfl
  ·rintro σ H4 ⟨⟨v,t,A,v9,v10,v11,v12,v13,rfl,wk⟩,sm⟩
   rw [zA,List.drop_length] at wk
   unfold walkM at wk
   obtain ⟨e1,e2⟩:=Prod.mk.inj (Option.some.inj wk)
   subst e1;subst e2
   have:=q _ sm
   rw [<-decide_eq_true lez] at this
   exact (zr rfl (zr rfl ⟨rfl,zr rfl (iteB1 (by simp) (zr rfl (zr rfl (zr2 rfl rfl this))))⟩))
theorem Hk:FnScope ["book", "letter", "chain", "sender", "since", "wish", "last"] ["book", "letter", "chain"] (defScope F9):=⟨rfl,rfl,rfl,by decide +kernel,rfl,by decide +kernel,by decide +kernel⟩
theorem JY (T:Tx K mg a t_LAST_TIME t_MOST_WALKERS t_MOST_ROOM t_MOST_MEETINGS t_MOST_MANY) (B:BmAt mg base):FnOk P w K mg base CX0 1 a.Cv a.Ds ["book", "letter", "chain"] (spArrival):=by
 refine T.CZ.ok Hk (λvs H Q E h=>?_) (λcdv A outer s H vs Q E hr h=>?_)
 ·obtain ⟨b,lt,lc,_,_,_,_,_,_,_,_,_,_,rfl,_⟩:=h;rfl
 ·have nd:=Hk.nd
  have hu:=hr.units
  obtain ⟨b,lt,lc,s0,w0,a0,z0,e0,rooms,tr,tm,ps,ns,rfl,hb,gd,hlt,hc,wk,q⟩:=h
  refine ⟨_,(@xg _ _ _ (@xj _ _ _ _ _ _ (wU (pv 1) (wD (n:=4) rfl rfl (xf (xc (i:=3) nd rfl (by first | exact Or.inl rfl | exact Or.inr rfl)) (xf (xc (i:=4) nd rfl (by first | exact Or.inl rfl | exact Or.inr rfl)) (xf (xc (i:=5) nd rfl (by first | exact Or.inl rfl | exact Or.inr rfl)) (xf (xc (i:=6) nd rfl (by first | exact Or.inl rfl | exact Or.inr rfl)) wB)))))) (@xu _ _ _ (@xl _ _ _ _ (@pe_ifExp _ _ _ _ _ _ _ _ (pt_truth (pv 2) (λ_=>rfl)) (@xw _ _ _ _ _ _ _ (xy rfl) (@xw _ _ _ _ _ _ _ (xy rfl) (@xw _ _ _ _ _ _ _ (xy rfl) (pv 0) xY (λ_ _=>rfl)) (@xw _ _ _ _ _ _ _ (xx rfl) (pv 2) (@pe_un _ _ _ _ _ _ un_neg xY) (λ_ _=>rfl)) (λ_ _=>rfl)) xY (λ_ _=>rfl)) (pv 4)))))),?_⟩
  refine (zr rfl (un4 hlt ?_))
  rcases walk_last wk with ⟨rfl,rfl⟩ | ⟨n,m,k,h1,rfl,h3,h4⟩
  ·exact (zr rfl ⟨false,.inl ⟨_,SqL.of hc,rfl⟩,zr rfl q⟩)
  ·have hk:k < ps.length:=by
    have:=(zB.mp h3).1
    simpa using this
   have em:ps[k].2=m:=by
    rw [zS,zL hk] at h3
    exact Option.some.inj h3
   have hrow:=hb.rows _ (zj hk)
   rw [em] at hrow
   have ne:(true:Bool)=!(List.map V.int ns).isEmpty:=by
    cases ns with
    | nil=>cases h1
    | cons a b=>rfl
   have atl:atI (List.map V.int ns) (-1)=some (V.int k):=atI_last (by rw [List.getLast?_map,h1];rfl)
   rw [<-h4] at q
   exact (zr rfl ⟨true,.inl ⟨_,SqL.of hc,ne⟩,zr rfl (ixt hb.book rfl (zr rfl (zr rfl (ixl hc atl (ixt hb.meets (wF (v:=V.ref ps[k].1) (by simp [hk])) (ixt hrow rfl q))))))⟩)
theorem DB:FnScope ["_law_chain", "_law_number", "_law_found", "_law_at"] ["_law_chain", "_law_number"] (defScope Cz):=⟨rfl,rfl,rfl,by decide +kernel,rfl,by decide +kernel,by decide +kernel⟩
theorem FU (T:Tx K mg a t_LAST_TIME t_MOST_WALKERS t_MOST_ROOM t_MOST_MEETINGS t_MOST_MANY) (B:BmAt mg base):FnOk P w K mg base CX0 1 a.At a.AY ["_law_chain", "_law_number"] (spClosedUp):=by
 refine T.AG.ok DB (λvs H Q E h=>?_) (λcdv A outer s H vs Q E hr h=>?_)
 ·obtain ⟨_,_,_,rfl,_⟩:=h;rfl
 ·have nd:=DB.nd
  have hu:=hr.units
  obtain ⟨lc,n,c,rfl,hc,c9,nn,q⟩:=h
  refine ⟨_,(@xg _ _ _ (@xj _ _ _ _ _ _ (xk (i:=2) nd rfl (by first | exact Or.inl rfl | exact Or.inr rfl) (@wC _ _ _ _ wK)) (@xj _ _ _ _ _ _ (wV PassesOwn.never rfl (@wN _ _ _ _ _ rfl (pv 0)) (xc (i:=3) nd rfl (by first | exact Or.inl rfl | exact Or.inr rfl)) (@xg _ _ _ (@xj _ _ _ _ _ _ (@wA _ _ _ _ _ _ _ _ (@xq _ _ _ _ _ _ _ _ wt (pv 3) (pv 1) (nomark _)) (@xg _ _ _ (@xu _ _ _ (@xl _ _ _ _ (@wC _ _ _ _ wK)))) xv) (@xu _ _ _ (wJ (pe_bm zd zZ za wI (pv 2) (@xV _ _ _ (@xX _ _ _ _ _ (@xm _ _ _ _ _ _ _ _ op_sub (pv 3) (pe_callTy (call_int1) (by rfl) T.b_int PyProof.Rows.boot_int (@xV _ _ _ (@xX _ _ _ _ _ (@wj _ _ _ _ _ _ _ _ op_gt (pv 3) (pv 1) (nomark _)) xi rfl)))) xi rfl)))))))) (@xu _ _ _ (@xl _ _ _ _ (pv 2)))))),?_⟩
  have line:3010<=sizeLine:=by rw [sizeLine_eq];decide
  refine ⟨by show 0<=sizeLine;omega,λlf hlf=>?_⟩
  have s1:=xa (o:=HO.lst []) hlf
  have h1:upd H lf (HO.lst []) lf=some (.lst []):=xW
  generalize upd H lf (HO.lst [])=H1 at s1 h1 ⊢
  refine (zr rfl ⟨lc,rfl,⟨_,SqL.of (s1 _ _ hc)⟩,?_⟩)
  refine wr (K:=K) (a:=lc) (xs:=List.map V.int c) (λi σ H5=>(∃ v3,σ=[some (.ref lc),some (.int (n:Int)),some (.ref lf),v3])/\Same H H5/\H5 lf=some (.lst (List.map V.int ((c.take i).map (shut n))))) ⟨⟨_,rfl⟩,s1,h1⟩ (λi σ H5 _ h=>SqL.of (h.2.1 _ _ hc)) ?_ ?_
  ·rintro i v σ H5 hv ⟨⟨v3,rfl⟩,s5,h5⟩
   obtain ⟨k,hk,rfl⟩:=wL hv
   have kn:k≠(n:Int):=λe=>nn (by rw [<-e];exact zC hk)
   have ki:i < c.length:=(zB.mp hk).1
   refine (zr rfl (zr rfl ⟨rfl,zr rfl (iteB0 (decide_eq_false λz=>kn (V.int.inj z)) ?_)⟩))
   refine (zr rfl ⟨.inl ⟨rfl,_,SqL.of h5⟩,?_⟩)
   refine (zr rfl (zr rfl (zr rfl (zr2 rfl rfl (.inr (zr rfl (zr2 rfl rfl ?_)))))))
   have e:k - (if decide ((n:Int) < k)=true then 1 else 0)=shut n k:=by
    unfold shut
    by_cases d:(n:Int) < k
    ·rw [if_pos d,if_pos (decide_eq_true d)]
    ·rw [if_neg d,if_neg (by rw [decide_eq_false d];exact zJ)];omega
   refine ⟨lf,zr2 rfl rfl ⟨h5,by rw [zA,zA,zX];omega,⟨_,rfl⟩,Same.put hlf s5,?_⟩⟩
   rw [xW]
   show some (HO.lst (List.map V.int (List.map (shut n) (List.take i c))++[V.int (k - (if decide ((n:Int) < k)=true then 1 else 0))]))=_
   rw [e,yq,hk,zK,zK];rfl
  ·rintro σ H5 ⟨⟨v3,rfl⟩,s5,h5⟩
   rw [zA,zu] at h5
   exact (zr rfl (q lf H5 s5 hlf h5))
theorem DP:FnScope ["_law_book_here", "_law_letter_here", "_law_two", "_law_number", "_law_left", "_law_chain", "_law_there"] ["_law_book_here", "_law_letter_here", "_law_two", "_law_number"] (defScope C9):=⟨rfl,rfl,rfl,by decide +kernel,rfl,by decide +kernel,by decide +kernel⟩
theorem Gc (T:Tx K mg a t_LAST_TIME t_MOST_WALKERS t_MOST_ROOM t_MOST_MEETINGS t_MOST_MANY) (B:BmAt mg base):FnOk P w K mg base CX0 6 a.AA a.A4 ["_law_book_here", "_law_letter_here", "_law_two", "_law_number"] (spOneLeft a.tP lamPos):=by
 have CS:=@D8 P w _ _ base _ _ _ _ _ _ T B
 have Ky:=@Jl P w _ _ base _ _ _ _ _ _ T B
 have II:=@JY P w _ _ base _ _ _ _ _ _ T B
 have Gz:=@FU P w _ _ base _ _ _ _ _ _ T B
 refine T.AL.ok DP (λvs H Q E h=>?_) (λcdv A outer s H vs Q E hr h=>?_)
 ·obtain ⟨_,_,_,_,_,_,_,_,_,_,_,_,_,_,_,_,_,rfl,_⟩:=h;rfl
 ·have nd:=DP.nd
  have hu:=hr.units
  obtain ⟨b,lt,t,n,F,s0,w0,x0,z0,rooms,tr,tm,ps,l1,l2,c1,c2,rfl,hb,hn,rm1,rm2,rm9,gd,hL,ht,pr,mt,q⟩:=h
  refine ⟨_,(@xg _ _ _ (@xj _ _ _ _ _ _ (xk (i:=4) nd rfl (by first | exact Or.inl rfl | exact Or.inr rfl) (xh CS (hr.mono (by decide)) rfl T.EZ T.E5 T.E7 .nil pass0 (@xV _ _ _ (@xX _ _ _ _ _ (pv 0) (@xX _ _ _ _ _ (pv 3) xi rfl) rfl)))) (@xj _ _ _ _ _ _ (wV PassesOwn.never rfl (@pi_tup'' _ _ _ _ _ rfl (pv 2)) (xc (i:=5) nd rfl (by first | exact Or.inl rfl | exact Or.inr rfl)) (@xg _ _ _ (@xu _ _ _ (@wA _ _ _ _ _ _ _ _ (@xq _ _ _ _ _ _ _ _ op_notIn_seq (pv 3) (pv 5) rfl) (@xg _ _ _ (@xj _ _ _ _ _ _ (xk (i:=6) nd rfl (by first | exact Or.inl rfl | exact Or.inr rfl) (xh Gz (hr.mono (by decide)) rfl T.Gg T.Gi T.Gj .nil pass0 (@xV _ _ _ (@xX _ _ _ _ _ (pv 5) (@xX _ _ _ _ _ (pv 3) xi rfl) rfl)))) (@xj _ _ _ _ _ _ (@wA _ _ _ _ _ _ _ _ (@wY _ _ _ _ (wT (xh Ky (hr.mono (by decide)) rfl T.J1 T.Ka T.Kg .nil pass0 (@xV _ _ _ (@xX _ _ _ _ _ (pv 4) (@xX _ _ _ _ _ (pv 1) (@xX _ _ _ _ _ (pv 6) xi rfl) rfl) rfl))))) (@xg _ _ _ (@xu _ _ _ (@xl _ _ _ _ pe_bl))) xv) (@xu _ _ _ (@xl _ _ _ _ (@wj _ _ _ _ _ _ _ _ wt (xh II (hr.mono (by decide)) rfl T.IB T.ID T.IF .nil pass0 (@xV _ _ _ (@xX _ _ _ _ _ (pv 4) (@xX _ _ _ _ _ (pv 1) (@xX _ _ _ _ _ (pv 6) xi rfl) rfl) rfl))) (xh II (hr.mono (by decide)) rfl T.IB T.ID T.IF .nil pass0 (@xV _ _ _ (@xX _ _ _ _ _ (pv 0) (@xX _ _ _ _ _ (pv 1) (@xX _ _ _ _ _ (pv 5) xi rfl) rfl) rfl))) (nomark _))))))) xv)))) (@xu _ _ _ (@xl _ _ _ _ pe_bl))))),?_⟩
  have line:3010<=sizeLine:=by rw [sizeLine_eq];decide
  have n60:=gd.len
  refine (zr rfl (zr rfl (ex6 b n rooms tr tm ps ⟨rfl,hb,hn,rm1,rm2,rm9,gd,mt,λb' tr' tm' ps' H1 b1 mt1 hb1 e1=>?_⟩)))
  have t1:=MT.tups' mt b1
  have gd1:Good rooms.length (ps'.map (·.2)):=by rw [e1];exact gd.sub (yM _ _)
  have ht1:=t1 _ _ ht
  have pr1:=pr.keep mt b1
  have hbo:=hb.tups t1
  have hL1:LetAt H1 lt rooms.length s0 w0 x0 z0:=⟨t1 _ _ hL.1,hL.2⟩
  refine (zr rfl ⟨t,rfl,⟨_,SqT.of ht1⟩,?_⟩)
  refine for_tup (K:=K) (a:=t) (xs:=[V.ref l1,V.ref l2]) (λi σ H5=>(∃ v5 v6,σ=[some (.ref b),some (.ref lt),some (.ref t),some (.int (n:Int)),some (.ref b'),v5,v6])/\Same H1 H5/\i<=1/\(i=1->(n:Int)∈c1)) ⟨⟨_,_,rfl⟩,Same.refl _,by omega,λz=>by omega⟩ (λi σ H5 _ h=>SqT.of (h.2.1 _ _ ht1)) ?_ ?_
  ·rintro i v σ H5 hv ⟨⟨v5,v6,rfl⟩,s5,i1,hi⟩
   have pr5:=pr1.same s5
   have go:∀ (l:Addr) (c:List Int),H5 l=some (.lst (List.map V.int c))->(∃ e,e<=z0/\walkM (ps.map (·.2)) s0 x0 (-1) c=some (w0,e))->(n:Int) ∉ c->c.length<=100/\walkM (ps'.map (·.2)) s0 x0 (-1) (c.map (shut n))≠none:=λl c hl hw nn=>by
    obtain ⟨e,le,hw⟩:=hw
    have:=walk_len hw (by omega)
    have lp:(ps.map (·.2)).length=ps.length:=zA ..
    exact ⟨by omega,by rw [e1,shut_chain hw nn];exact λz=>nomatch z⟩
   obtain ⟨l,c,rfl,hl,⟨e,ez,wk⟩,hnc⟩:∃ l c,v=.ref l/\H5 l=some (.lst (List.map V.int c))/\(∃ e,e<=z0/\walkM (ps.map (·.2)) s0 x0 (-1) c=some (w0,e))/\((n:Int)∈c->i=0/\c=c1):=by
    match i,hv with
    | 0,hv=>cases hv;exact ⟨l1,c1,rfl,pr5.h1,pr5.w1,λ_=>⟨rfl,rfl⟩⟩
    | 1,hv=>cases hv;exact ⟨l2,c2,rfl,pr5.h2,pr5.w2,λh=>absurd h (pr.dj n (hi rfl))⟩
    | i + 2,hv=>cases hv
   have lp:(ps.map (·.2)).length=ps.length:=zA ..
   have cl:=walk_len wk (by omega)
   refine (zr rfl (zr rfl ⟨l,zr rfl ⟨.inl (SqL.of hl),rfl,ints_flat,zr rfl ?_⟩⟩))
   by_cases d:(n:Int)∈c
   ·obtain ⟨rfl,rfl⟩:=hnc d
    refine iteB0 (by show (!inV _ _)=false;rw [inV_ints,decide_eq_true d];rfl) ?_
    exact ⟨⟨_,_,rfl⟩,s5,zD _,λ_=>d⟩
   ·refine iteB1 (by show (!inV _ _)=true;rw [inV_ints,decide_eq_false d];rfl) ?_
    have wk':=shut_chain wk d
    rw [<-e1] at wk'
    refine (zr rfl (zr rfl ⟨l,n,c,rfl,hl,by omega,d,λlf H6 s6 f6 h6=>?_⟩))
    have s16:=s5.trans s6
    have hL6:=hL1.same s16
    refine (zr rfl (zr rfl (zr rfl ⟨b',lt,lf,s0,w0,x0,z0,e,rooms,tr',tm',ps',zr rfl ⟨hb1.same s16,gd1,hL6,h6,wk',ez,λH7 s7=>(zr rfl (iteB0 rfl ?_))⟩⟩)))
    have s17:=s16.trans s7
    have hL7:=hL1.same s17
    refine (zr rfl (zr rfl (zr rfl ⟨b',lt,lf,s0,w0,x0,z0,e,rooms,tr',tm',ps',zr rfl ⟨hb1.same s17,gd1,hL7.1,s7 _ _ h6,wk',?_⟩⟩)))
    refine (zr rfl (zr rfl (zr rfl (ex13 b lt l s0 w0 x0 z0 e rooms tr tm ps _ ⟨rfl,hbo.same s17,gd,hL7.1,s7 _ _ (s6 _ _ hl),wk,rfl,?_⟩))))
    rw [decide_eq_true rfl]
    exact q H7 (λx u n e=>s17 _ _ (b1 x u n e)) (L2.MT.same mt1 s17)
  ·rintro σ H5 ⟨_,_,h,_⟩
   exact absurd h (by show ¬ (2<=1);decide)
theorem DR:FnScope ["_law_book_here", "_law_letter_here", "_law_lost_by", "_law_told", "_law_number", "_law_left"] ["_law_book_here", "_law_letter_here", "_law_lost_by"] (defScope Da):=⟨rfl,rfl,rfl,by decide +kernel,rfl,by decide +kernel,by decide +kernel⟩
theorem Ge (T:Tx K mg a t_LAST_TIME t_MOST_WALKERS t_MOST_ROOM t_MOST_MEETINGS t_MOST_MANY) (B:BmAt mg base):FnOk P w K mg base CX0 7 a.AC a.A6 ["_law_book_here", "_law_letter_here", "_law_lost_by"] (spHoldsSo a.tP lamPos):=by
 have CS:=@D8 P w _ _ base _ _ _ _ _ _ T B
 have JO:=@KK P w _ _ base _ _ _ _ _ _ T B
 have Hc:=@Gc P w _ _ base _ _ _ _ _ _ T B
 refine T.AN.ok DR (λvs H Q E h=>?_) (λcdv A outer s H vs Q E hr h=>?_)
 ·obtain ⟨_,_,_,_,_,_,_,rfl,_⟩:=h;rfl
 ·have nd:=DR.nd
  have hu:=hr.units
  obtain ⟨b,ll,x,rooms,tr,tm,ps,rfl,hb,rm1,rm2,rm9,gd,hL,hll,mt,q⟩:=h
  refine ⟨_,(@xg _ _ _ (@xj _ _ _ _ _ _ (xk (i:=3) nd rfl (by first | exact Or.inl rfl | exact Or.inr rfl) (xh JO (hr.mono (by decide)) rfl T.Jq T.Jv T.JA .nil pass0 (@xV _ _ _ (@xX _ _ _ _ _ (pv 0) (@xX _ _ _ _ _ (pv 1) xi rfl) rfl)))) (@xj _ _ _ _ _ _ (@wA _ _ _ _ _ _ _ _ (@xq _ _ _ _ _ _ _ _ wt (@xw _ _ _ _ _ _ _ (xy rfl) (pv 3) xY (λ_ _=>rfl)) pe_str (nomark _)) (@xg _ _ _ (@xj _ _ _ _ _ _ (wV PassesOwn.never rfl (wc rfl T.b_range (@xV _ _ _ (@xX _ _ _ _ _ (xp (xo rfl) (by rfl) T.b_len PySem.boot_len (@xV _ _ _ (@xX _ _ _ _ _ (@xw _ _ _ _ _ _ _ (xy rfl) (pv 0) xY (λ_ _=>rfl)) xi rfl))) xi rfl))) (xc (i:=4) nd rfl (by first | exact Or.inl rfl | exact Or.inr rfl)) (@xg _ _ _ (@xu _ _ _ (@wA _ _ _ _ _ _ _ _ (@wY _ _ _ _ (wT (xh Hc (hr.mono (by decide)) rfl T.GZ T.G2 T.G5 .nil pass0 (@xV _ _ _ (@xX _ _ _ _ _ (pv 0) (@xX _ _ _ _ _ (pv 1) (@xX _ _ _ _ _ (@pe_slice _ _ _ _ _ _ _ _ _ _ (sl_tup' rfl) (pv 3) (@po_some _ _ _ xY) po_none) (@xX _ _ _ _ _ (pv 4) xi rfl) rfl) rfl) rfl))))) (@xg _ _ _ (@xu _ _ _ (@xl _ _ _ _ pe_bl))) xv)))) (@xu _ _ _ (@xl _ _ _ _ (@wj _ _ _ _ _ _ _ _ (op_eqE hu) (pv 2) (@wC _ _ _ _ wK) (nomark _)))))) xv) (@xj _ _ _ _ _ _ (@wA _ _ _ _ _ _ _ _ (@xq _ _ _ _ _ _ _ _ wt (@xw _ _ _ _ _ _ _ (xy rfl) (pv 3) xY (λ_ _=>rfl)) pe_str (nomark _)) (@xg _ _ _ (@xj _ _ _ _ _ _ (xk (i:=5) nd rfl (by first | exact Or.inl rfl | exact Or.inr rfl) (xh CS (hr.mono (by decide)) rfl T.EZ T.E5 T.E7 .nil pass0 (@xV _ _ _ (@xX _ _ _ _ _ (pv 0) (@xX _ _ _ _ _ (@xw _ _ _ _ _ _ _ (xy rfl) (pv 3) xY (λ_ _=>rfl)) xi rfl) rfl)))) (@xu _ _ _ (@xl _ _ _ _ (@pe_and _ _ _ _ _ _ _ (@wj _ _ _ _ _ _ _ _ (op_in_seq' rfl) (@xw _ _ _ _ _ _ _ (xy rfl) (pv 3) xY (λ_ _=>rfl)) (pv 2) rfl) (@pe_one _ _ _ _ _ (@wj _ _ _ _ _ _ _ _ wt (@xw _ _ _ _ _ _ _ (xy rfl) (xh JO (hr.mono (by decide)) rfl T.Jq T.Jv T.JA .nil pass0 (@xV _ _ _ (@xX _ _ _ _ _ (pv 5) (@xX _ _ _ _ _ (pv 1) xi rfl) rfl))) xY (λ_ _=>rfl)) pe_str (nomark _)))))))) xv) (@xu _ _ _ (@xl _ _ _ _ (@wj _ _ _ _ _ _ _ _ (op_eqE hu) (pv 2) (@wC _ _ _ _ wK) (nomark _)))))))),?_⟩
  have line:3010<=sizeLine:=by rw [sizeLine_eq];decide
  have n60:=gd.len
  have lps:(ps.map (·.2)).length=ps.length:=zA ..
  refine (zr rfl (zr rfl (ex10 b x.1 x.2.s x.2.w x.2.a x.2.z rooms tr tm ps ⟨rfl,hb,rm1,rm2,rm9,gd,hL,mt,λt HA btA mtA told=>?_⟩)))
  have tA:=MT.tups' mt btA
  have hbA:=hb.tups tA
  have hLA:LtAt HA rooms.length x:=hL.tups tA
  have hllA:=MT.keep mt btA hll (by intro ys z;cases z)
  have nil:(∀ n,lostB (ps.map (·.2)) n x.2=false)->∀ H5,But a.tP HA H5->MT a.tP lamPos lamQ H5->∀ le,H5 le=some (.lst [])->rEqv K false (.ref ll) (.ref le) H5 Q:=λno H5 b5 m5 le hle=>by
   have h5:=MT.keep mtA b5 hllA (by intro ys z;cases z)
   rw [lostTo_nil no] at h5
   exact eq_flat34 (xs:=[]) (λx hx=>nomatch hx) h5 hle (q H5 (btA.trans b5) m5)
  rcases told with ⟨no,l,hT,_,hl⟩ | ⟨yes,k,l,hk,no,hT,_,hl⟩ | ⟨l1,l2,c1,c2,hT,pr⟩
  ·refine (zr rfl (ixt hT rfl ⟨rfl,zr rfl (iteB0 (by decide +kernel) ?_)⟩))
   refine (zr rfl (ixt hT rfl ⟨rfl,zr rfl (iteB0 (by decide +kernel) ?_)⟩))
   refine (zr rfl ⟨by show 0<=sizeLine;omega,λle hle=>?_⟩)
   have k1:=xa (o:=HO.lst []) hle
   exact nil (λn=>by unfold lostB comesB;rw [no];rfl) _ (λx u _ e=>k1 _ _ e) (L2.MT.same mtA k1) le xW
  ·refine (zr rfl (ixt hT rfl ⟨rfl,zr rfl (iteB0 (by decide +kernel) ?_)⟩))
   refine (zr rfl (ixt hT rfl ⟨rfl,zr rfl (iteB1 (by decide +kernel) ?_)⟩))
   rw [lps] at hk
   refine (zr rfl (zr rfl (ixt hT rfl (ex6 b k rooms tr tm ps ⟨rfl,hbA,hk,rm1,rm2,rm9,gd,mtA,λb' tr' tm' ps' HB btB mtB hbB eB=>?_⟩))))
   have tB:=MT.tups' mtA btB
   have hTB:=tB _ _ hT
   have hllB:=MT.keep mtA btB hllA (by intro ys z;cases z)
   have gdB:Good rooms.length (ps'.map (·.2)):=by rw [eB];exact gd.sub (yM _ _)
   have lb:lostB (ps.map (·.2)) k x.2=true:=by unfold lostB comesB;rw [yes,no];rfl
   refine (zr rfl (ixt hTB rfl (zr rfl ⟨ll,zr rfl ⟨.inl (SqL.of hllB),rfl,ints_flat,zr rfl (iteB1 (by show inV _ _=true;rw [inV_ints];exact decide_eq_true (lostTo_mem lb hk)) ?_)⟩⟩)))
   refine (zr rfl (zr rfl ⟨b',x.1,x.2.s,x.2.w,x.2.a,x.2.z,rooms,tr',tm',ps',rfl,hbB,rm1,rm2,rm9,gdB,hLA.tups tB,mtB,λt2 HC btC mtC told2=>?_⟩))
   have fin:But a.tP H HC:=btA.trans (btB.trans btC)
   rw [eB] at told2 gdB
   rcases told2 with ⟨_,l',hT2,_,_⟩ | ⟨yes2,_⟩ | ⟨_,_,_,_,_,pr2⟩
   ·exact (ixt hT2 rfl ⟨rfl,q HC fin mtC⟩)
   ·rw [no] at yes2;cases yes2
   ·have:=walk_upto gdB pr2.w1
    rw [no] at this;cases this
  ·refine (zr rfl (ixt hT rfl ⟨rfl,zr rfl (iteB1 (by decide +kernel) ?_)⟩))
   refine (zr rfl (ixt hbA.book rfl ⟨tm,zr rfl ⟨.inr (SqT.of hbA.meets),zr rfl ⟨by rw [zA];omega,by rw [zA];omega,?_⟩⟩⟩))
   refine wd (lo:=0) (λi σ H5=>(∃ v4,σ=[some (.ref b),some (.ref x.1),some (.ref ll),some (.ref t),v4,none])/\But a.tP HA H5/\MT a.tP lamPos lamQ H5) ⟨⟨_,rfl⟩,But.refl _ _,mtA⟩ ?_ ?_
   ·rintro i σ H5 hi ⟨⟨v4,rfl⟩,b5,m5⟩
    rw [zA,zh] at hi
    rw [xU]
    have t5:=MT.tups' mtA b5
    have hT5:=t5 _ _ hT
    refine (zr rfl (zr rfl (zr rfl (zr rfl ⟨t,zr rfl ⟨SqT.of hT5,(by show ¬ (HT.sIx 3 0 (some 1)=0/\HT.sIx 3 3 none=3);decide),λts hts=>?_⟩⟩))))
    have k3:=xa (o:=HO.tup [V.ref l1,V.ref l2]) hts
    have k4:upd H5 ts (HO.tup [V.ref l1,V.ref l2]) ts=some (.tup [V.ref l1,V.ref l2]):=xW
    have ec:cutV [V.str "two", V.ref l1,V.ref l2] (some 1) none=[V.ref l1,V.ref l2]:=rfl
    rw [ec]
    generalize upd H5 ts _=H6 at k3 k4 ⊢
    refine (zr rfl (ex17 b x.1 ts i _ x.2.s x.2.w x.2.a x.2.z rooms tr tm ps l1 l2 c1 c2 ⟨rfl,(hbA.tups t5).same k3,hi,rm1,rm2,rm9,gd,(hLA.tups t5).tups (Tups.same k3),k4,(pr.keep mtA b5).same k3,L2.MT.same m5 k3,λH7 b7 m7=>(zr rfl (iteB0 rfl ⟨⟨_,rfl⟩,λx u n e=>b7 x u n (k3 _ _ (b5 x u n e)),m7⟩))⟩))
   ·rintro σ H5 ⟨⟨v4,rfl⟩,b5,m5⟩
    refine (zr rfl ⟨by show 0<=sizeLine;omega,λle hle=>?_⟩)
    have k1:=xa (o:=HO.lst []) hle
    refine nil (λn=>?_) _ (λx u n e=>k1 _ _ (b5 x u n e)) (L2.MT.same m5 k1) le xW
    unfold lostB comesB
    rw [pair_comes gd pr.w1 pr.w2 pr.dj n,Bool.not_true,xD]
theorem K3:FnScope ["_law_script", "_law_head", "_law_book_here", "_law_letters", "_law_k", "_law_lost_by", "_law_number", "_law_together", "_law_alone"] ["_law_script"] (defScope KF):=⟨rfl,rfl,rfl,by decide +kernel,rfl,by decide +kernel,by decide +kernel⟩
theorem Lo (T:Tx K mg a t_LAST_TIME t_MOST_WALKERS t_MOST_ROOM t_MOST_MEETINGS t_MOST_MANY) (B:BmAt mg base):FnOk P w K mg base CX0 8 a.FZ a.IG ["_law_script"] (spLawT K a.tP lamPos):=by
 have El:=@HY P w _ _ base _ _ _ _ _ _ T B
 have Ab:=@wP P w _ _ base _ _ _ _ _ _ T B
 have JS:=@IQ P w _ _ base _ _ _ _ _ _ T B
 have Iw:=@Ho P w _ _ base _ _ _ _ _ _ T B
 have Le:=@Lk P w _ _ base _ _ _ _ _ _ T B
 have He:=@Ge P w _ _ base _ _ _ _ _ _ T B
 refine T.GW.ok K3 (λvs H Q E h=>?_) (λcdv A outer s H vs Q E hr h=>?_)
 ·obtain ⟨_,_,rfl,_⟩:=h;rfl
 ·have nd:=K3.nd
  have hu:=hr.units
  obtain ⟨sa,ns,rfl,hS,hlen,mt,q⟩:=h
  refine ⟨_,(@xg _ _ _ (@xj _ _ _ _ _ _ (xk (i:=1) nd rfl (by first | exact Or.inl rfl | exact Or.inr rfl) (xh El (hr.mono (by decide)) rfl T.Eb T.Ed T.Eg .nil pass0 (@xV _ _ _ (@xX _ _ _ _ _ (pv 0) (@xX _ _ _ _ _ xY xi rfl) rfl)))) (@xj _ _ _ _ _ _ (xk (i:=2) nd rfl (by first | exact Or.inl rfl | exact Or.inr rfl) (xh JS (hr.mono (by decide)) rfl T.Ju T.Jz T.JE .nil pass0 (@xV _ _ _ (@xX _ _ _ _ _ (xh El (hr.mono (by decide)) rfl T.Eb T.Ed T.Eg .nil pass0 (@xV _ _ _ (@xX _ _ _ _ _ (pv 0) (@xX _ _ _ _ _ xY xi rfl) rfl))) (@xX _ _ _ _ _ xY (@xX _ _ _ _ _ (@xw _ _ _ _ _ _ _ (xx rfl) (@wC _ _ _ _ (@xV _ _ _ (@xX _ _ _ _ _ xY (@xX _ _ _ _ _ xY xi rfl) rfl))) (xh Ab (hr.mono (by decide)) rfl T.Ac T.Ae T.Af .nil pass0 (@xV _ _ _ (@xX _ _ _ _ _ (pv 1) (@xX _ _ _ _ _ xY xi rfl) rfl))) (λ_ _=>rfl)) xi rfl) rfl) rfl)))) (@xj _ _ _ _ _ _ (xk (i:=3) nd rfl (by first | exact Or.inl rfl | exact Or.inr rfl) (@wC _ _ _ _ wK)) (@xj _ _ _ _ _ _ (wV PassesOwn.never rfl (pi_range2 rfl T.b_range (@xV _ _ _ (@xX _ _ _ _ _ xY (@xX _ _ _ _ _ (xp (call_min2 rfl) (by rfl) T.b_min yi (@xV _ _ _ (@xX _ _ _ _ _ (xp (call_max2 rfl) (by rfl) T.b_max PyProof.Rows.boot_max (@xV _ _ _ (@xX _ _ _ _ _ (xp (xo rfl) (by rfl) T.b_len PySem.boot_len (@xV _ _ _ (@xX _ _ _ _ _ (pv 0) xi rfl))) (@xX _ _ _ _ _ xY xi rfl) rfl))) (@xX _ _ _ _ _ xY xi rfl) rfl))) xi rfl) rfl))) (xc (i:=4) nd rfl (by first | exact Or.inl rfl | exact Or.inr rfl)) (@xg _ _ _ (@xu _ _ _ (wJ (pe_bm zd zZ za wI (pv 3) (@xV _ _ _ (@xX _ _ _ _ _ (xh Iw (hr.mono (by decide)) rfl T.Ic T.Ie T.Ih .nil pass0 (@xV _ _ _ (@xX _ _ _ _ _ (xh El (hr.mono (by decide)) rfl T.Eb T.Ed T.Eg .nil pass0 (@xV _ _ _ (@xX _ _ _ _ _ (pv 0) (@xX _ _ _ _ _ (pv 4) xi rfl) rfl))) (@xX _ _ _ _ _ (pv 2) xi rfl) rfl))) xi rfl))))))) (@xj _ _ _ _ _ _ (ps_setComp (ix:=5) nd rfl (by first | exact Or.inl rfl | exact Or.inr rfl) (own:=["_law_letter_here"]) (caps:=[]) rfl (show CompScope ["_law_letter_here"] [] ["_law_script", "_law_head", "_law_book_here", "_law_letters", "_law_k", "_law_lost_by", "_law_number", "_law_together", "_law_alone"] (defScope KF) _ from ⟨rfl,by decide +kernel,by decide +kernel,by decide +kernel,by decide +kernel⟩) (@wN _ _ _ _ _ rfl (pv 3)) (λ_ _ _ _=>(xc (i:=0) (show List.Nodup (["_law_letter_here"]:List Str) from by decide +kernel) rfl (by first | exact Or.inl rfl | exact Or.inr rfl))) (λ_ _ _ _=>pts_nil) (λ_ _ _ _=>(@wC _ _ _ _ wK))) (@xj _ _ _ _ _ _ (wV PassesOwn.never rfl (wc rfl T.b_range (@xV _ _ _ (@xX _ _ _ _ _ (xp (xo rfl) (by rfl) T.b_len PySem.boot_len (@xV _ _ _ (@xX _ _ _ _ _ (@xw _ _ _ _ _ _ _ (xy rfl) (pv 2) xY (λ_ _=>rfl)) xi rfl))) xi rfl))) (xc (i:=6) nd rfl (by first | exact Or.inl rfl | exact Or.inr rfl)) (@xg _ _ _ (@xj _ _ _ _ _ _ (xk (i:=7) nd rfl (by first | exact Or.inl rfl | exact Or.inr rfl) (xh Le (hr.mono (by decide)) rfl T.K6 T.K9 T.Lb .nil pass0 (@xV _ _ _ (@xX _ _ _ _ _ (pv 2) (@xX _ _ _ _ _ (pv 3) (@xX _ _ _ _ _ (pv 6) xi rfl) rfl) rfl)))) (@xu _ _ _ (wV PassesOwn.never rfl (wc rfl T.b_range (@xV _ _ _ (@xX _ _ _ _ _ (xp (xo rfl) (by rfl) T.b_len PySem.boot_len (@xV _ _ _ (@xX _ _ _ _ _ (pv 3) xi rfl))) xi rfl))) (xc (i:=4) nd rfl (by first | exact Or.inl rfl | exact Or.inr rfl)) (@xg _ _ _ (@xj _ _ _ _ _ _ (xk (i:=8) nd rfl (by first | exact Or.inl rfl | exact Or.inr rfl) (xh Le (hr.mono (by decide)) rfl T.K6 T.K9 T.Lb .nil pass0 (@xV _ _ _ (@xX _ _ _ _ _ (pv 2) (@xX _ _ _ _ _ (@wC _ _ _ _ (@xV _ _ _ (@xX _ _ _ _ _ (@xw _ _ _ _ _ _ _ (xx rfl) (pv 3) (pv 4) (λ_ _=>rfl)) xi rfl))) (@xX _ _ _ _ _ (pv 6) xi rfl) rfl) rfl)))) (@xj _ _ _ _ _ _ (@wA _ _ _ _ _ _ _ _ (@xq _ _ _ _ _ _ _ _ (op_neE hu) (pv 8) (@pe_slice _ _ _ _ _ _ _ _ _ _ (sl_list' rfl) (@wC _ _ _ _ (@xV _ _ _ (@xX _ _ _ _ _ xY xi rfl))) po_none (@po_some _ _ _ (pe_callTy (call_int1) (by rfl) T.b_int PyProof.Rows.boot_int (@xV _ _ _ (@xX _ _ _ _ _ (@wj _ _ _ _ _ _ _ _ (op_in_seq' rfl) (pv 4) (pv 7) rfl) xi rfl))))) (nomark _)) (@xg _ _ _ (@xu _ _ _ (@xl _ _ _ _ pe_bl))) xv) (@xu _ _ _ (@wA _ _ _ _ _ _ _ _ (@xq _ _ _ _ _ _ _ _ (op_neE hu) (pv 8) (@wC _ _ _ _ wK) (nomark _)) (@xg _ _ _ (@xu _ _ _ (wJ (pe_bm zd zZ za wI (@xw _ _ _ _ _ _ _ (xx rfl) (pv 5) (pv 4) (λ_ _=>rfl)) (@xV _ _ _ (@xX _ _ _ _ _ (pv 6) xi rfl)))))) xv)))))))))) (@xj _ _ _ _ _ _ (wV PassesOwn.never rfl (wc rfl T.b_range (@xV _ _ _ (@xX _ _ _ _ _ (xp (xo rfl) (by rfl) T.b_len PySem.boot_len (@xV _ _ _ (@xX _ _ _ _ _ (pv 3) xi rfl))) xi rfl))) (xc (i:=4) nd rfl (by first | exact Or.inl rfl | exact Or.inr rfl)) (@xg _ _ _ (@xu _ _ _ (@wA _ _ _ _ _ _ _ _ (@wY _ _ _ _ (wT (xh He (hr.mono (by decide)) rfl T.G1 T.G4 T.G7 .nil pass0 (@xV _ _ _ (@xX _ _ _ _ _ (pv 2) (@xX _ _ _ _ _ (@xw _ _ _ _ _ _ _ (xx rfl) (pv 3) (pv 4) (λ_ _=>rfl)) (@xX _ _ _ _ _ (@xw _ _ _ _ _ _ _ (xx rfl) (pv 5) (pv 4) (λ_ _=>rfl)) xi rfl) rfl) rfl))))) (@xg _ _ _ (@xu _ _ _ (@xl _ _ _ _ pe_bl))) xv)))) (@xu _ _ _ (@xl _ _ _ _ pe_bl)))))))))),?_⟩
  have line:3010<=sizeLine:=by rw [sizeLine_eq];decide
  refine ⟨_,rfl,sa,ns,1,rfl,hS,by omega,λp1 H1 hp1 pu1 s1=>?_⟩
  refine ⟨_,rfl,sa,ns,0,rfl,s1.seq hS,by omega,λp0 H2 hp0 pu0 s2=>?_⟩
  refine ⟨by show 2<=sizeLine;omega,λl0 hl0=>⟨_,rfl,p1,2,rfl,by decide,by decide,(pu1.same s2).new hl0,λd H3 d0 d1 g3=>?_⟩⟩
  have s3:=xa (o:=HO.lst [V.int 10,V.int 24]) hl0
  have n0:l0≠p1:=(pu1.same s2).ne hl0
  have n01:p0≠p1:=λz=>by
   obtain ⟨_,_,_,e⟩:=pu1
   rw [z,e] at hp0;cases hp0
  obtain ⟨m,hm,em⟩:∃ m:Nat,m<=60/\atI [V.int 10,V.int 24] d=some (V.int m):=by
   obtain rfl | rfl:d=0\/d=1:=by omega
   ·exact ⟨10,by decide,rfl⟩
   ·exact ⟨24,by decide,rfl⟩
  have pu3:Purse H3 p0:=by
   obtain ⟨u,v,w,e⟩:=pu0
   exact ⟨u,v,w,g3.1 _ _ n01 (s3 _ _ e)⟩
  refine ⟨l0,_,_,_,rfl,rfl,SqL.of (g3.1 _ _ n0 xW),em,?_⟩
  refine ⟨p0,10,m,rfl,by decide,by decide,hm,pu3,λb rooms tr tm ps H4 g4 hb rm1 rm2 rm9 gd _=>?_⟩
  have rn:rooms.length<=12:=by omega
  have sm:Same H H4:=λx u e=>g4.1 x u (xZ (s1 _ _ e) hp0) (g3.1 x u (xZ e hp1) (s3 _ _ (s2 _ _ (s1 _ _ e))))
  have mt4:=L2.MT.same mt sm
  have hS4:=sm.seq hS
  clear sm g4 pu3 em hm n01 n0 s3 g3 s2 pu0 hp0 s1 pu1 hp1 hS mt
  have n60:=gd.len
  have lps:(ps.map (·.2)).length=ps.length:=zA ..
  refine ⟨by show 0<=sizeLine;omega,λlw hlw=>?_⟩
  have s7:=xa (o:=HO.lst []) hlw
  have h7:upd H4 lw (HO.lst []) lw=some (.lst []):=xW
  generalize upd H4 lw (HO.lst [])=H7 at s7 h7 ⊢
  refine ⟨_,rfl,sa,_,rfl,.inl (s7.seq hS4),_,_,rfl,_,_,rfl,_,_,rfl,?_,?_⟩
  ·refine ⟨by decide,by decide,?_,?_⟩
   ·split <;> (try split) <;> omega
   ·rw [zA];split <;> (try split) <;> omega
  refine wd (lo:=2) (λi σ H8=>∃ ls,(∃ v4,σ=[some (.ref sa),some (.ref p1),some (.ref b),some (.ref lw),v4,none,none,none,none])/\Same H4 H8/\LetsAt H8 lw rooms.length ls/\ls.length=i) ⟨[],⟨_,rfl⟩,s7,⟨h7,λ_ z=>nomatch z⟩,rfl⟩ ?_ ?_
  ·rintro i σ H8 hi ⟨ls,⟨v4,rfl⟩,s8,hL8,ll⟩
   have i60:i < 90:=by
    rw [zA] at hi
    revert hi
    split <;> (try split) <;> intro h <;> omega
   refine ⟨_,rfl,.inl ⟨rfl,_,SqL.of hL8.1⟩,?_⟩
   refine ⟨_,rfl,_,rfl,sa,ns,2 + i,by simp,s8.seq hS4,by omega,λp2 H9 hp2 pu9 s9=>?_⟩
   refine ⟨_,rfl,p2,b,rooms,tr,tm,ps,rfl,(hb.same s8).same s9,rm1,by omega,gd,pu9,λt s0 a0 w0 z0 HA gA ht s1' s2' w1' w2' a1' a2' z1' z2'=>?_⟩
   obtain ⟨s0,rfl⟩:=zk s1'
   obtain ⟨w0,rfl⟩:=zk w1'
   have s2'':s0 < rooms.length:=by omega
   have w2'':w0 < rooms.length:=by omega
   have sA:Same H8 HA:=But.same hp2 s9 gA.1
   have hLA:=hL8.same sA
   have tA:=Tups.set (o:=HO.lst ((ls.map λx=>V.ref x.1)++[V.ref t])) hLA.1
   refine ⟨lw,_,_,rfl,rfl,hLA.1,by rw [zA];omega,ls++[(t,⟨s0,w0,a0,z0⟩)],⟨_,rfl⟩,Same.put hlw (s8.trans sA),⟨by rw [xW,zK];rfl,λx hx=>?_⟩,by rw [zE,ll];rfl⟩
   rcases zT.mp hx with h | h
   ·exact (hLA.2 x h).tups tA
   ·cases zF.mp h
    exact ⟨tA _ _ ht,s2'',w2'',a1',a2',z1',z2'⟩
  rintro σ H8 ⟨ls,⟨v4,rfl⟩,s8,hL8,ll⟩
  have l9:ls.length<=100:=by
   rw [ll,zA]
   split <;> (try split) <;> omega
  clear ll
  have hb8:=hb.same s8
  have mt8:=L2.MT.same mt4 s8
  have lls:(ls.map λx=>V.ref x.1).length=ls.length:=zA ..
  clear hS4
  refine ⟨_,rfl,lw,rfl,⟨_,SqL.of hL8.1⟩,?_⟩
  refine comp_list (K:=K) (a:=lw) (xs:=ls.map λx=>V.ref x.1) (λi τ acc H9=>∃ as:List Addr,(∃ t0,τ=[t0])/\acc=as.map V.ref/\as.length=i/\Same H8 H9/\as.Nodup/\∀ c∈as,H8 c=none/\H9 c=some (.lst [])) ⟨[],⟨_,rfl⟩,rfl,rfl,Same.refl _,.nil,λ_ h=>nomatch h⟩ (by rw [lls];omega) ?_ ?_ ?_
  ·rintro i τ acc H9 ⟨as,_,rfl,la,sm,_⟩
   exact ⟨by rw [zA,la];exact zD _,SqL.of (sm _ _ hL8.1)⟩
  ·rintro i v τ acc H9 C hv ⟨as,⟨t0,rfl⟩,rfl,la,sm,nd,fr⟩ hC
   refine ⟨by show 0<=sizeLine;omega,λc hc=>hC _ _ _ ⟨as++[c],⟨_,rfl⟩,by rw [zK];rfl,by rw [zE,la];rfl,sm.trans (xa hc),?_,λc' h'=>?_⟩⟩
   ·rw [List.nodup_append]
    refine ⟨nd,ze.mpr ⟨by simp,.nil⟩,λx hx y hy e=>?_⟩
    rw [zF.mp hy] at e
    have:=(fr x hx).2
    rw [e,hc] at this;cases this
   ·rcases zT.mp h' with h | h
    ·exact ⟨(fr c' h).1,xa hc _ _ (fr c' h).2⟩
    ·rw [zF.mp h];exact ⟨sm.free hc,xW⟩
  rintro τ acc H9 ⟨as,_,rfl,la,sm,nd,fr⟩ lb hlb
  rw [lls] at la
  have k9:=xa (o:=HO.lst (as.map V.ref)) hlb
  have s9:=sm.trans k9
  have S0:St31 a.tP lamPos H8 (upd H9 lb (.lst (as.map V.ref))) lb as (λk=>lostTo (ps.map (·.2)) ((ls.map (·.2))[k]?.getD ⟨0,0,0,0⟩) 0):=⟨λx u _ e=>s9 _ _ e,L2.MT.same mt8 s9,xW,λk c hc=>k9 _ _ (fr c (zC hc)).2,ze.mpr ⟨(λh=>by have:=(fr lb h).2;rw [hlb] at this;cases this),nd⟩,λc hc=>by
   rcases zH.mp hc with rfl | hc
   ·exact sm.free hlb
   ·exact (fr c hc).1⟩
  generalize upd H9 lb (.lst (as.map V.ref))=HA at S0 ⊢
  clear s9 k9 hlb fr sm nd H9
  have keepT:∀ {H5},But a.tP H8 H5->Tups H8 H5:=λb=>MT.tups' mt8 b
  have keepL:∀ {H5},But a.tP H8 H5->LetsAt H5 lw rooms.length ls:=λb5=>⟨MT.keep mt8 b5 hL8.1 (by intro ys z;cases z),λx hx=>(hL8.2 x hx).tups (MT.tups' mt8 b5)⟩
  have get:∀ k:Nat,k < ls.length->∃ (x:Addr×L4) (c:Addr),ls[k]?=some x/\as[k]?=some c/\(ls.map λx=>V.ref x.1)[k]?=some (V.ref x.1)/\(as.map V.ref)[k]?=some (V.ref c)/\(ls.map (·.2))[k]?=some x.2:=λk hk=>by
   have h1:ls[k]?=some ls[k]:=zL hk
   have h2:as[k]?=some (as[k]'(by omega)):=zL (by omega)
   exact ⟨_,_,h1,h2,by rw [zS,h1];rfl,by rw [zS,h2];rfl,by rw [zS,h1];rfl⟩
  have hbA:=hb8.tups (keepT S0.bt)
  refine ⟨_,rfl,b,_,_,_,rfl,rfl,SqT.of hbA.book,rfl,tm,_,rfl,.inr (SqT.of hbA.meets),_,rfl,by rw [zA];omega,by rw [zA];omega,?_⟩
  refine wd (lo:=0) (λn σ H5=>(∃ v4 v6 v7 v8,σ=[some (.ref sa),some (.ref p1),some (.ref b),some (.ref lw),v4,some (.ref lb),v6,v7,v8])/\St31 a.tP lamPos H8 H5 lb as (λk=>lostTo (ps.map (·.2)) ((ls.map (·.2))[k]?.getD ⟨0,0,0,0⟩) n)) ⟨⟨_,_,_,_,rfl⟩,S0⟩ ?_ ?_
  ·rintro n σ H5 hn ⟨⟨v4,v6,v7,v8,rfl⟩,S5⟩
   rw [zA,zh] at hn
   rw [xU]
   have t5:=keepT S5.bt
   have hb5:=hb8.tups t5
   have hL5:=keepL S5.bt
   refine ⟨_,rfl,_,rfl,_,rfl,b,lw,n,rooms,tr,tm,ps,ls,rfl,hb5,hn,rm1,rn,rm9,gd,hL5,l9,S5.mt,λlf H6 b6 m6 f6 h6=>?_⟩
   have S6:=S5.but b6 m6
   have nf:∀ c∈as,lf≠c:=λc hc e=>by
    obtain ⟨k,hk⟩:=zy hc
    have:=S5.rw_ k c hk
    rw [<-e,f6] at this;cases this
   have hL6:=keepL S6.bt
   refine ⟨_,rfl,lw,_,rfl,.inl (SqL.of hL6.1),_,rfl,by rw [lls];omega,by rw [lls];omega,?_⟩
   refine wd (lo:=0) (λk σ H7=>(∃ v4 v8,σ=[some (.ref sa),some (.ref p1),some (.ref b),some (.ref lw),v4,some (.ref lb),some (.int (n:Int)),some (.ref lf),v8])/\H7 lf=some (.lst (List.map V.int (pick (lostB (ps.map (·.2)) n) (ls.map (·.2)) ls.length)))/\St31 a.tP lamPos H8 H7 lb as (λj=>lostTo (ps.map (·.2)) ((ls.map (·.2))[j]?.getD ⟨0,0,0,0⟩) (if j < k then n + 1 else n))) ⟨⟨_,_,rfl⟩,h6,S6.ext λj _=>by rw [if_neg (by omega)]⟩ ?_ ?_
   ·rintro k σ H7 hk ⟨⟨w4,w8,rfl⟩,h7f,S7⟩
    rw [lls,zh] at hk
    rw [xU]
    obtain ⟨x,c,gx,gc,gx',gc',gx2⟩:=get k hk
    have t7:=keepT S7.bt
    have hL7:=keepL S7.bt
    have hx7:=hL7.2 x (zC gx)
    refine ⟨_,rfl,_,rfl,_,rfl,lw,_,_,_,rfl,rfl,SqL.of hL7.1,wF gx',by show 1<=sizeLine;omega,λlo hlo=>?_⟩
    have kO:=xa (o:=HO.lst [V.ref x.1]) hlo
    have kO':upd H7 lo (HO.lst [V.ref x.1]) lo=some (.lst [V.ref x.1]):=xW
    generalize upd H7 lo (HO.lst [V.ref x.1])=HB at kO kO' ⊢
    have SB:=S7.same kO
    refine ⟨_,rfl,b,lo,n,rooms,tr,tm,ps,[x],rfl,hb8.tups (keepT SB.bt),hn,rm1,rn,rm9,gd,⟨kO',λy hy=>by rw [zF.mp hy];exact hx7.tups (Tups.same kO)⟩,by show 1<=100;omega,SB.mt,λla' HC bC mC fC hC'=>?_⟩
    have SC:=SB.but bC mC
    have hfC:=MT.keep SB.mt bC (kO _ _ h7f) (by intro ys z;cases z)
    have hC':HC la'=some (.lst (List.map V.int (if lostB (ps.map (·.2)) n x.2=true then [0] else []))):=by rw [<-pick_one];exact hC'
    have hin:inV (.int (k:Int)) (List.map V.int (pick (lostB (ps.map (·.2)) n) (ls.map (·.2)) ls.length))=lostB (ps.map (·.2)) n x.2:=by rw [inV_ints];exact pick_mem gx2 hk
    refine ⟨_,rfl,by show 1<=sizeLine;omega,λlz hlz=>?_⟩
    have kZ:=xa (o:=HO.lst [V.int 0]) hlz
    have kZ':upd HC lz (HO.lst [V.int 0]) lz=some (.lst [V.int 0]):=xW
    generalize upd HC lz (HO.lst [V.int 0])=HD at kZ kZ' ⊢
    refine ⟨_,rfl,_,rfl,lf,_,rfl,.inl (SqL.of (kZ _ _ hfC)),rfl,ints_flat,.inr ⟨lostB (ps.map (·.2)) n x.2,congrArg (λb=>[V.bl b]) ((if_neg zJ).trans hin),?_⟩⟩
    refine ⟨_,rfl,lz,_,rfl,SqL.of kZ',λly hly=>?_⟩
    have ec:cutV [V.int 0] none (some (if lostB (ps.map (·.2)) n x.2=true then 1 else 0))=List.map V.int (if lostB (ps.map (·.2)) n x.2=true then [0] else []):=by
     cases lostB (ps.map (·.2)) n x.2 <;> rfl
    have kY:=xa (o:=HO.lst (List.map V.int (if lostB (ps.map (·.2)) n x.2=true then [0] else []))) hly
    have kY':upd HD ly (HO.lst (List.map V.int (if lostB (ps.map (·.2)) n x.2=true then [0] else []))) ly=some (.lst (List.map V.int (if lostB (ps.map (·.2)) n x.2=true then [0] else []))):=xW
    rw [ec]
    refine ne_intsL (neg:=true) (kY _ _ (kZ _ _ hC')) kY' ⟨_,rfl,iteB0 rfl ?_⟩
    have kE:=kZ.trans kY
    generalize upd HD ly _=HE at kE ⊢
    have SE:=SC.same kE
    have hE:=kE _ _ hC'
    have hfE:=kE _ _ hfC
    refine ⟨_,rfl,by show 0<=sizeLine;omega,λle hle=>?_⟩
    have kF:=xa (o:=HO.lst []) hle
    have kF':upd HE le (HO.lst []) le=some (.lst []):=xW
    generalize upd HE le (HO.lst [])=HF at kF kF' ⊢
    have SF:=SE.same kF
    have hF:=kF _ _ hE
    have hfF:=kF _ _ hfE
    have ek:(ls.map (·.2))[k]?.getD ⟨0,0,0,0⟩=x.2:=by rw [gx2];rfl
    cases cl:lostB (ps.map (·.2)) n x.2 with
    | false=>
     rw [cl] at hF
     refine ⟨1,la',le,[],[],λ_=>true,true,by decide,rfl,rfl,.inl ⟨SqL.of hF,SqL.of kF'⟩,rfl,(λi x y hx hy=>by simp at hy),?_⟩
     refine ⟨_,rfl,iteB0 rfl ⟨⟨_,_,rfl⟩,hfF,SF.ext λj _=>?_⟩⟩
     by_cases e:j=k
     ·subst e
      rw [if_neg (by omega),if_pos (by omega),ek]
      show _=lostTo _ _ n++(if lostB (ps.map (·.2)) n x.2=true then [(n:Int)] else [])
      rw [cl,if_neg zJ,zn]
     ·have e2:(j < k)↔(j < k + 1):=by omega
      simp only [e2]
    | true=>
     rw [cl] at hF
     refine ⟨1,la',le,[V.int 0],[],λ_=>true,false,by decide,rfl,rfl,.inl ⟨SqL.of hF,SqL.of kF'⟩,rfl,(λi x y hx hy=>by simp at hy),?_⟩
     have hc:=SF.rw_ k c gc
     refine ⟨_,rfl,iteB1 rfl ?_⟩
     refine ⟨_,rfl,_,rfl,lb,_,_,_,rfl,rfl,SqL.of SF.hb,wF gc',.inl ⟨rfl,_,SqL.of hc⟩,_,rfl,c,_,_,rfl,rfl,hc,?_,?_⟩
     ·have:=lostTo_len (ps.map (·.2)) ((ls.map (·.2))[k]?.getD ⟨0,0,0,0⟩) (if k < k then n + 1 else n)
      rw [if_neg (by omega)] at this
      rw [zA,if_neg (by omega)]
      omega
     have eg:List.map V.int (lostTo (ps.map (·.2)) ((ls.map (·.2))[k]?.getD ⟨0,0,0,0⟩) (if k < k then n + 1 else n))++[V.int (n:Int)]=List.map V.int (lostTo (ps.map (·.2)) x.2 n++[(n:Int)]):=by
      rw [if_neg (by omega),ek,zK];rfl
     rw [eg]
     refine ⟨⟨_,_,rfl⟩,by rw [xb (nf c (zC gc))];exact hfF,(SF.put gc (g:=lostTo (ps.map (·.2)) x.2 n++[(n:Int)])).ext λj _=>?_⟩
     by_cases e:j=k
     ·subst e
      rw [if_pos rfl,if_pos (by omega),ek]
      show _=lostTo _ _ n++(if lostB (ps.map (·.2)) n x.2=true then [(n:Int)] else [])
      rw [cl,if_pos rfl]
     ·have e2:(j < k)↔(j < k + 1):=by omega
      simp only [if_neg e,e2]
   ·rintro σ H7 ⟨⟨w4,w8,rfl⟩,_,S7⟩
    rw [lls,zh] at S7
    exact ⟨⟨_,_,_,_,rfl⟩,S7.ext λj hj=>by rw [if_pos (by omega)]⟩
  ·rintro σ H5 ⟨⟨v4,v6,v7,v8,rfl⟩,S5⟩
   rw [zA,zh] at S5
   have hL5:=keepL S5.bt
   refine ⟨_,rfl,lw,_,rfl,.inl (SqL.of hL5.1),_,rfl,by rw [lls];omega,by rw [lls];omega,?_⟩
   refine wd (lo:=0) (λk σ H7=>(∃ v4,σ=[some (.ref sa),some (.ref p1),some (.ref b),some (.ref lw),v4,some (.ref lb),v6,v7,v8])/\St31 a.tP lamPos H8 H7 lb as (λj=>lostTo (ps.map (·.2)) ((ls.map (·.2))[j]?.getD ⟨0,0,0,0⟩) ps.length)) ⟨⟨_,rfl⟩,S5⟩ ?_ (fun σ H7 _=>q H7)
   rintro k σ H7 hk ⟨⟨w4,rfl⟩,S7⟩
   rw [lls,zh] at hk
   rw [xU]
   obtain ⟨x,c,gx,gc,gx',gc',gx2⟩:=get k hk
   have hL7:=keepL S7.bt
   have hc:=S7.rw_ k c gc
   rw [show (ls.map (·.2))[k]?.getD ⟨0,0,0,0⟩=x.2 from by rw [gx2];rfl] at hc
   refine ⟨_,rfl,_,rfl,_,rfl,lw,_,_,_,rfl,rfl,SqL.of hL7.1,wF gx',_,rfl,_,rfl,lb,_,_,_,rfl,rfl,SqL.of S7.hb,wF gc',b,c,x,rooms,tr,tm,ps,rfl,hb8.tups (keepT S7.bt),rm1,rn,rm9,gd,hL7.2 x (zC gx),hc,S7.mt,λH9 b9 m9=>⟨_,rfl,iteB0 rfl ⟨⟨_,rfl⟩,S7.but b9 m9⟩⟩⟩
end
theorem all_mk {l:PySem.W.OpenLaw}{w:World}{K:PySem.W.Frag}{h:Heap}{mg:Str->Option Value}{fa Ja Ek EQ FF Ej ER De ET EO DN Fz EK Gp FB Gn EN Ei BF Dx EJ B7 EL Gr Kk Fx Fy Dw Gm BH Dl C0 B0 Bg C2 C3 EM Db CD FD FC DM FE Eh HM Gq Kl FA Gs CF Dc Df Ln tC tP Aa:Addr} (X:K.In h) (G:h.Ns mainGlobals mg) (hfa:mg "law" = some (.ref fa))
  {E9 B4 Cn CQ B3 Co A5 Cp Cm BB CJ Ci Dp CL Do Cl B2 Ar Bi Bm Aw Cj Dr Gu CG CI Bh Dm AJ B5 BC AZ Ax BD BE Ck A3 AX CO CM BA CP B1 DX Dq Gv CK Ds AY A4 A6 IG:FuncData}{t_LAST_TIME:Tok}{t_MOST_WALKERS:Tok}{t_MOST_ROOM:Tok}{t_MOST_MEETINGS:Tok}{t_MOST_MANY:Tok}
  (DF:zI K mainGlobals "_wall" = some (some (.ref Ja))) (Fa:Fun K "_wall" "_wall" KG Ja E9)
  (Ba:zI K mainGlobals "_law_purse" = some (some (.ref Ek))) (Bz:Fun K "_law_purse" "_law_purse" D6 Ek B4)
  (Bt:zI K mainGlobals "_law_take" = some (some (.ref EQ))) (BX:Fun K "_law_take" "_law_take" EF EQ Cn)
  (BQ:zI K mainGlobals "_law_far" = some (some (.ref FF))) (Ch:Fun K "_law_far" "_law_far" Fv FF CQ)
  (A9:zI K mainGlobals "_law_rooms" = some (some (.ref Ej))) (By:Fun K "_law_rooms" "_law_rooms" D5 Ej B3)
  (Bu:zI K mainGlobals "_law_step" = some (some (.ref ER))) (BY:Fun K "_law_step" "_law_step" EG ER Co)
  (AB:zI K mainGlobals "_law_meetings" = some (some (.ref De))) (AM:Fun K "_law_meetings" "_law_meetings" wo De A5)
  (Bv:zI K mainGlobals "_law_book" = some (some (.ref ET))) (BZ:Fun K "_law_book" "_law_book" EH ET Cp)
  (Bs:zI K mainGlobals "_law_time" = some (some (.ref EO))) (BW:Fun K "_law_time" "_law_time" EE EO Cm)
  (AQ:zI K mainGlobals "_law_letter" = some (some (.ref DN))) (Be:Fun K "_law_letter" "_law_letter" DG DN BB)
  (BK:zI K mainGlobals "is_whole" = some (some (.ref Fz))) (Cb:Fun K "is_whole" "is_whole" Fo Fz CJ)
  (Bo:zI K mainGlobals "is_within" = some (some (.ref EK))) (BS:Fun K "is_within" "is_within" EB EK Ci)
  (Cs:zI K mainGlobals "is_time" = some (some (.ref Gp))) (CV:Fun K "is_time" "is_time" F7 Gp Dp)
  (BM:zI K mainGlobals "is_below" = some (some (.ref FB))) (Cd:Fun K "is_below" "is_below" Fq FB CL)
  (Cr:zI K mainGlobals "is_upto" = some (some (.ref Gn))) (CU:Fun K "is_upto" "is_upto" F6 Gn Do)
  (Br:zI K mainGlobals "are_rooms" = some (some (.ref EN))) (BV:Fun K "are_rooms" "are_rooms" DE EN Cl)
  (A8:zI K mainGlobals "is_meeting" = some (some (.ref Ei))) (Bx:Fun K "is_meeting" "is_meeting" D4 Ei B2)
  (Ah:zI K mainGlobals "meets_twice_at_once" = some (some (.ref BF))) (Ao:Fun K "meets_twice_at_once" "meets_twice_at_once" wZ BF Ar)
  (AI:zI K mainGlobals "lesser_first" = some (some (.ref Dx))) (A2:Fun K "lesser_first" "lesser_first" Dv Dx Bi)
  (Bn:zI K mainGlobals "made_book" = some (some (.ref EJ))) (BR:Fun K "made_book" "made_book" DD EJ Bm)
  (Aj:zI K mainGlobals "is_meeting_number" = some (some (.ref B7))) (Ap:Fun K "is_meeting_number" "is_meeting_number" wf B7 Aw)
  (Bp:zI K mainGlobals "is_walker" = some (some (.ref EL))) (BT:Fun K "is_walker" "is_walker" EC EL Cj)
  (Cu:zI K mainGlobals "by_time" = some (some (.ref Gr))) (CY:Fun K "by_time" "by_time" EY Gr Dr)
  (EU:zI K mainGlobals "ways" = some (some (.ref Kk))) (FH:Fun K "ways" "ways" JU Kk Gu)
  (BI:zI K mainGlobals "other_at" = some (some (.ref Fx))) (B9:Fun K "other_at" "other_at" Fm Fx CG)
  (BJ:zI K mainGlobals "lone_row" = some (some (.ref Fy))) (Ca:Fun K "lone_row" "lone_row" D3 Fy CI)
  (AH:zI K mainGlobals "need_meeting" = some (some (.ref Dw))) (A0:Fun K "need_meeting" "need_meeting" Du Dw Bh)
  (Cq:zI K mainGlobals "without" = some (some (.ref Gm))) (CT:Fun K "without" "without" EX Gm Dm)
  (Ai:zg K (.ref Aa) "__init__" = some (some (.ref BH))) (BG:ya K (.ref BH)=true) (Aq:Fun K "__init__" "Stream.__init__" wa BH AJ)
  (Bb:zg K (.ref Aa) "tie" = some (some (.ref Dl))) (Ee:ya K (.ref Dl)=true) (Bc:Fun K "tie" "Stream.tie" D7 Dl B5)
  (AR:zg K (.ref Aa) "sent" = some (some (.ref C0))) (DJ:ya K (.ref C0)=true) (AV:Fun K "sent" "Stream.sent" DH C0 BC)
  (Au:zg K (.ref Aa) "came_to" = some (some (.ref B0))) (CC:ya K (.ref B0)=true) (Av:Fun K "came_to" "Stream.came_to" CB B0 AZ)
  (Al:zg K (.ref Aa) "sent_along" = some (some (.ref Bg))) (B6:ya K (.ref Bg)=true) (Am:Fun K "sent_along" "Stream.sent_along" wS Bg Ax)
  (AT:zg K (.ref Aa) "send" = some (some (.ref C2))) (DK:ya K (.ref C2)=true) (AW:Fun K "send" "Stream.send" DI C2 BD)
  (AU:zg K (.ref Aa) "near" = some (some (.ref C3))) (DL:ya K (.ref C3)=true) (Bf:Fun K "near" "Stream.near" Fl C3 BE)
  (Bq:zI K mainGlobals "is_letter" = some (some (.ref EM))) (BU:Fun K "is_letter" "is_letter" ED EM Ck)
  (Ay:zI K mainGlobals "first_givings" = some (some (.ref Db))) (AK:Fun K "first_givings" "first_givings" C8 Db A3)
  (As:zI K mainGlobals "earliest_times" = some (some (.ref CD))) (AF:Fun K "earliest_times" "earliest_times" Cy CD AX)
  (BO:zI K mainGlobals "earliest" = some (some (.ref FD))) (Cf:Fun K "earliest" "earliest" Ft FD CO)
  (BN:zI K mainGlobals "giver_of" = some (some (.ref FC))) (Ce:Fun K "giver_of" "giver_of" Fs FC CM)
  (AO:zI K mainGlobals "givers_sent" = some (some (.ref DM))) (Bd:Fun K "givers_sent" "givers_sent" wg DM BA)
  (BP:zI K mainGlobals "chain_by" = some (some (.ref FE))) (Cg:Fun K "chain_by" "chain_by" Fu FE CP)
  (A7:zI K mainGlobals "two_chains" = some (some (.ref Eh))) (Bw:Fun K "two_chains" "two_chains" Dk Eh B1)
  (C7:zI K mainGlobals "stands" = some (some (.ref HM))) (Dz:Fun K "stands" "stands" Hl HM DX)
  (Ct:zI K mainGlobals "is_lost" = some (some (.ref Gq))) (CW:Fun K "is_lost" "is_lost" F8 Gq Dq)
  (EV:zI K mainGlobals "lost" = some (some (.ref Kl))) (FI:Fun K "lost" "lost" IJ Kl Gv)
  (BL:zI K mainGlobals "is_chain" = some (some (.ref FA))) (Cc:Fun K "is_chain" "is_chain" Fp FA CK)
  (Cv:zI K mainGlobals "arrival" = some (some (.ref Gs))) (CZ:Fun K "arrival" "arrival" F9 Gs Ds)
  (At:zI K mainGlobals "_law_closed_up" = some (some (.ref CF))) (AG:Fun K "_law_closed_up" "_law_closed_up" Cz CF AY)
  (AA:zI K mainGlobals "_law_one_left" = some (some (.ref Dc))) (AL:Fun K "_law_one_left" "_law_one_left" C9 Dc A4)
  (AC:zI K mainGlobals "_law_holds_so" = some (some (.ref Df))) (AN:Fun K "_law_holds_so" "_law_holds_so" Da Df A6)
  (FZ:zI K mainGlobals "law" = some (some (.ref Ln))) (GW:Fun K "law" "law" KF Ln IG)
  (z_all:zI K mainGlobals "all" = some none)
  (z_bool:zI K mainGlobals "bool" = some none)
  (z_enumerate:zI K mainGlobals "enumerate" = some none)
  (z_int:zI K mainGlobals "int" = some none)
  (z_isinstance:zI K mainGlobals "isinstance" = some none)
  (z_len:zI K mainGlobals "len" = some none)
  (z_list:zI K mainGlobals "list" = some none)
  (z_max:zI K mainGlobals "max" = some none)
  (z_min:zI K mainGlobals "min" = some none)
  (z_range:zI K mainGlobals "range" = some none)
  (z_set:zI K mainGlobals "set" = some none)
  (z_sorted:zI K mainGlobals "sorted" = some none)
  (z_tuple:zI K mainGlobals "tuple" = some none)
  (g_LAST_TIME:zI K mainGlobals "LAST_TIME" = some (some (.int 1000000000 t_LAST_TIME)))
  (g_MOST_WALKERS:zI K mainGlobals "MOST_WALKERS" = some (some (.int 12 t_MOST_WALKERS)))
  (g_MOST_ROOM:zI K mainGlobals "MOST_ROOM" = some (some (.int 99 t_MOST_ROOM)))
  (g_MOST_MEETINGS:zI K mainGlobals "MOST_MEETINGS" = some (some (.int 60 t_MOST_MEETINGS)))
  (g_MOST_MANY:zI K mainGlobals "MOST_MANY" = some (some (.int 99 t_MOST_MANY)))
  (HN:zI K mainGlobals "Stream" = some (some (.ref Aa)))
  (Gb:xG K Aa Str.empty=true) (Gk:PySem.W.hasDictIn K Aa=true) (Ga:PySem.W.plainOver K Aa=true) (F5:zg K (.ref Aa) "__setattr__" = some (some (.builtin "object.__setattr__")))
  (Gf:PySem.W.makesIn K Aa=true) (Gh:zG K (.ref Aa)=true)
  (nf_Stream_source:zg K (.ref Aa) "source" = some none)
  (nf_Stream_arcs:zg K (.ref Aa) "arcs" = some none)
  (nf_Stream_ends:zg K (.ref Aa) "ends" = some none)
  (nf_Stream_spare:zg K (.ref Aa) "spare" = some none)
  (h_cd:Bm.code=.ref tC) (h_hd:PySem.W.codeHdIn K tC tP=true) :
  ∃ fd:FuncData,(∃ c,PySem.W.codeHdIn K c tP=true)/\(∀ (s:Shared) (v:Value),BindsTo s fd ⟨[v],[]⟩ [("_law_script", v)])/\∀ base:Heap,K.In base->base.Ns mainGlobals mg->BmAt mg base->FnOk l.prog w K mg base CX0 8 fa fd ["_law_script"] (spLawT K tP lamPos):=by
 have e:=hfa.symm.trans (zO X G FZ)
 cases e
 have Lm:=Fa.binds (ps:=["k"]) λ_ _ _ _ _ _ us hl=>us1 hl λ_=>rfl
 have Je:=Bz.binds (ps:=["_law_script", "_law_k"]) λ_ _ _ _ _ _ us hl=>us2 hl λ_ _=>rfl
 have JL:=BX.binds (ps:=["_law_purse_here", "_law_many"]) λ_ _ _ _ _ _ us hl=>us2 hl λ_ _=>rfl
 have Ku:=Ch.binds (ps:=["_law_purse_here"]) λ_ _ _ _ _ _ us hl=>us1 hl λ_=>rfl
 have Jd:=By.binds (ps:=["_law_purse_here", "_law_walkers"]) λ_ _ _ _ _ _ us hl=>us2 hl λ_ _=>rfl
 have JM:=BY.binds (ps:=["_law_purse_here"]) λ_ _ _ _ _ _ us hl=>us1 hl λ_=>rfl
 have Ha:=AM.binds (ps:=["_law_purse_here", "_law_walkers", "_law_most"]) λ_ _ _ _ _ _ us hl=>us3 hl λ_ _ _=>rfl
 have JN:=BZ.binds (ps:=["_law_purse_here", "_law_most_walkers", "_law_most_meetings"]) λ_ _ _ _ _ _ us hl=>us3 hl λ_ _ _=>rfl
 have JK:=BW.binds (ps:=["_law_purse_here", "_law_book_here", "_law_later"]) λ_ _ _ _ _ _ us hl=>us3 hl λ_ _ _=>rfl
 have Il:=Be.binds (ps:=["_law_purse_here", "_law_book_here"]) λ_ _ _ _ _ _ us hl=>us2 hl λ_ _=>rfl
 have Ko:=Cb.binds (ps:=["thing"]) λ_ _ _ _ _ _ us hl=>us1 hl λ_=>rfl
 have JG:=BS.binds (ps:=["thing", "least", "most"]) λ_ _ _ _ _ _ us hl=>us3 hl λ_ _ _=>rfl
 have KW:=CV.binds (ps:=["thing"]) λ_ _ _ _ _ _ us hl=>us1 hl λ_=>rfl
 have Kq:=Cd.binds (ps:=["number", "bound"]) λ_ _ _ _ _ _ us hl=>us2 hl λ_ _=>rfl
 have KU:=CU.binds (ps:=["number", "bound"]) λ_ _ _ _ _ _ us hl=>us2 hl λ_ _=>rfl
 have JJ:=BV.binds (ps:=["thing"]) λ_ _ _ _ _ _ us hl=>us1 hl λ_=>rfl
 have Jc:=Bx.binds (ps:=["walkers", "thing"]) λ_ _ _ _ _ _ us hl=>us2 hl λ_ _=>rfl
 have Ev:=Ao.binds (ps:=["meetings"]) λ_ _ _ _ _ _ us hl=>us1 hl λ_=>rfl
 have HQ:=A2.binds (ps:=["meeting"]) λ_ _ _ _ _ _ us hl=>us1 hl λ_=>rfl
 have JF:=BR.binds (ps:=["rooms", "meetings"]) λ_ _ _ _ _ _ us hl=>us2 hl λ_ _=>rfl
 have Fc:=Ap.binds (ps:=["book", "thing"]) λ_ _ _ _ _ _ us hl=>us2 hl λ_ _=>rfl
 have JH:=BT.binds (ps:=["book", "thing"]) λ_ _ _ _ _ _ us hl=>us2 hl λ_ _=>rfl
 have KZ:=CY.binds (ps:=["book", "time"]) λ_ _ _ _ _ _ us hl=>us2 hl λ_ _=>rfl
 have Lp:=FH.binds (ps:=["book"]) λ_ _ _ _ _ _ us hl=>us1 hl λ_=>rfl
 have Km:=B9.binds (ps:=["book", "number", "walker"]) λ_ _ _ _ _ _ us hl=>us3 hl λ_ _ _=>rfl
 have Kn:=Ca.binds (ps:=["book", "walker", "number"]) λ_ _ _ _ _ _ us hl=>us3 hl λ_ _ _=>rfl
 have HP:=A0.binds (ps:=["book", "meeting"]) λ_ _ _ _ _ _ us hl=>us2 hl λ_ _=>rfl
 have KS:=CT.binds (ps:=["book", "meeting"]) λ_ _ _ _ _ _ us hl=>us2 hl λ_ _=>rfl
 have FY:=Aq.binds (ps:=["self", "many"]) λ_ _ _ _ _ _ us hl=>us2 hl λ_ _=>rfl
 have Jf:=Bc.binds (ps:=["self", "here", "there", "most"]) λ_ _ _ _ _ _ us hl=>us4 hl λ_ _ _ _=>rfl
 have Im:=AV.binds (ps:=["self", "tie"]) λ_ _ _ _ _ _ us hl=>us2 hl λ_ _=>rfl
 have Gy:=Av.binds (ps:=["self", "goal"]) λ_ _ _ _ _ _ us hl=>us2 hl λ_ _=>rfl
 have Fd:=Am.binds (ps:=["self", "came", "goal"]) λ_ _ _ _ _ _ us hl=>us3 hl λ_ _ _=>rfl
 have Io:=AW.binds (ps:=["self", "source", "goal"]) λ_ _ _ _ _ _ us hl=>us3 hl λ_ _ _=>rfl
 have Ip:=Bf.binds (ps:=["self"]) λ_ _ _ _ _ _ us hl=>us1 hl λ_=>rfl
 have JI:=BU.binds (ps:=["book", "thing"]) λ_ _ _ _ _ _ us hl=>us2 hl λ_ _=>rfl
 have G8:=AK.binds (ps:=["book", "sender", "since"]) λ_ _ _ _ _ _ us hl=>us3 hl λ_ _ _=>rfl
 have Gw:=AF.binds (ps:=["book", "sender", "since"]) λ_ _ _ _ _ _ us hl=>us3 hl λ_ _ _=>rfl
 have Ks:=Cf.binds (ps:=["book", "letter"]) λ_ _ _ _ _ _ us hl=>us2 hl λ_ _=>rfl
 have Kr:=Ce.binds (ps:=["meeting", "sent"]) λ_ _ _ _ _ _ us hl=>us2 hl λ_ _=>rfl
 have Ik:=Bd.binds (ps:=["book", "letter"]) λ_ _ _ _ _ _ us hl=>us2 hl λ_ _=>rfl
 have Kt:=Cg.binds (ps:=["book", "letter", "givers"]) λ_ _ _ _ _ _ us hl=>us3 hl λ_ _ _=>rfl
 have Jb:=Bw.binds (ps:=["book", "letter"]) λ_ _ _ _ _ _ us hl=>us2 hl λ_ _=>rfl
 have Lc:=Dz.binds (ps:=["book", "letter"]) λ_ _ _ _ _ _ us hl=>us2 hl λ_ _=>rfl
 have KY:=CW.binds (ps:=["book", "rest", "letter"]) λ_ _ _ _ _ _ us hl=>us3 hl λ_ _ _=>rfl
 have Lq:=FI.binds (ps:=["book", "letters", "meeting"]) λ_ _ _ _ _ _ us hl=>us3 hl λ_ _ _=>rfl
 have Kp:=Cc.binds (ps:=["book", "letter", "thing"]) λ_ _ _ _ _ _ us hl=>us3 hl λ_ _ _=>rfl
 have K0:=CZ.binds (ps:=["book", "letter", "chain"]) λ_ _ _ _ _ _ us hl=>us3 hl λ_ _ _=>rfl
 have Gx:=AG.binds (ps:=["_law_chain", "_law_number"]) λ_ _ _ _ _ _ us hl=>us2 hl λ_ _=>rfl
 have G9:=AL.binds (ps:=["_law_book_here", "_law_letter_here", "_law_two", "_law_number"]) λ_ _ _ _ _ _ us hl=>us4 hl λ_ _ _ _=>rfl
 have Hb:=AN.binds (ps:=["_law_book_here", "_law_letter_here", "_law_lost_by"]) λ_ _ _ _ _ _ us hl=>us3 hl λ_ _ _=>rfl
 have Ls:=GW.binds (ps:=["_law_script"]) λ_ _ _ _ _ _ us hl=>us1 hl λ_=>rfl
 have T:Tx K mg ⟨Ja,E9,Ek,B4,EQ,Cn,FF,CQ,Ej,B3,ER,Co,De,A5,ET,Cp,EO,Cm,DN,BB,Fz,CJ,EK,Ci,Gp,Dp,FB,CL,Gn,Do,EN,Cl,Ei,B2,BF,Ar,Dx,Bi,EJ,Bm,B7,Aw,EL,Cj,Gr,Dr,Kk,Gu,Fx,CG,Fy,CI,Dw,Bh,Gm,Dm,BH,AJ,Dl,B5,C0,BC,B0,AZ,Bg,Ax,C2,BD,C3,BE,EM,Ck,Db,A3,CD,AX,FD,CO,FC,CM,DM,BA,FE,CP,Eh,B1,HM,DX,Gq,Dq,Kl,Gv,FA,CK,Gs,Ds,CF,AY,Dc,A4,Df,A6,fa,IG,tC,tP,Aa⟩ t_LAST_TIME t_MOST_WALKERS t_MOST_ROOM t_MOST_MEETINGS t_MOST_MANY:=⟨Fa,Lm,zO X G DF,Fa.kp,Bz,Je,zO X G Ba,Bz.kp,BX,JL,zO X G Bt,BX.kp,Ch,Ku,zO X G BQ,Ch.kp,By,Jd,zO X G A9,By.kp,BY,JM,zO X G Bu,BY.kp,AM,Ha,zO X G AB,AM.kp,BZ,JN,zO X G Bv,BZ.kp,BW,JK,zO X G Bs,BW.kp,Be,Il,zO X G AQ,Be.kp,Cb,Ko,zO X G BK,Cb.kp,BS,JG,zO X G Bo,BS.kp,CV,KW,zO X G Cs,CV.kp,Cd,Kq,zO X G BM,Cd.kp,CU,KU,zO X G Cr,CU.kp,BV,JJ,zO X G Br,BV.kp,Bx,Jc,zO X G A8,Bx.kp,Ao,Ev,zO X G Ah,Ao.kp,A2,HQ,zO X G AI,A2.kp,BR,JF,zO X G Bn,BR.kp,Ap,Fc,zO X G Aj,Ap.kp,BT,JH,zO X G Bp,BT.kp,CY,KZ,zO X G Cu,CY.kp,FH,Lp,zO X G EU,FH.kp,B9,Km,zO X G BI,B9.kp,Ca,Kn,zO X G BJ,Ca.kp,A0,HP,zO X G AH,A0.kp,CT,KS,zO X G Cq,CT.kp,Aq,FY,⟨Ai,BG,Aq.kp⟩,Aq.kp,Bc,Jf,⟨Bb,Ee,Bc.kp⟩,Bc.kp,AV,Im,⟨AR,DJ,AV.kp⟩,AV.kp,Av,Gy,⟨Au,CC,Av.kp⟩,Av.kp,Am,Fd,⟨Al,B6,Am.kp⟩,Am.kp,AW,Io,⟨AT,DK,AW.kp⟩,AW.kp,Bf,Ip,⟨AU,DL,Bf.kp⟩,Bf.kp,BU,JI,zO X G Bq,BU.kp,AK,G8,zO X G Ay,AK.kp,AF,Gw,zO X G As,AF.kp,Cf,Ks,zO X G BO,Cf.kp,Ce,Kr,zO X G BN,Ce.kp,Bd,Ik,zO X G AO,Bd.kp,Cg,Kt,zO X G BP,Cg.kp,Bw,Jb,zO X G A7,Bw.kp,Dz,Lc,zO X G C7,Dz.kp,CW,KY,zO X G Ct,CW.kp,FI,Lq,zO X G EV,FI.kp,Cc,Kp,zO X G BL,Cc.kp,CZ,K0,zO X G Cv,CZ.kp,AG,Gx,zO X G At,AG.kp,AL,G9,zO X G AA,AL.kp,AN,Hb,zO X G AC,AN.kp,GW,Ls,zO X G FZ,GW.kp,zo X G z_all,zo X G z_bool,zo X G z_enumerate,zo X G z_int,zo X G z_isinstance,zo X G z_len,zo X G z_list,zo X G z_max,zo X G z_min,zo X G z_range,zo X G z_set,zo X G z_sorted,zo X G z_tuple,h_hd,h_cd,zO X G HN,⟨Gb,Gk,Ga,F5⟩,⟨Gf,Ai,BG,Gh⟩,nf_Stream_source,nf_Stream_arcs,nf_Stream_ends,nf_Stream_spare,zO X G g_LAST_TIME,zO X G g_MOST_WALKERS,zO X G g_MOST_ROOM,zO X G g_MOST_MEETINGS,zO X G g_MOST_MANY⟩
 obtain ⟨_,_,_,_,_,_,_,_,_,rfl,_,_⟩:=GW.ex
 exact ⟨_,⟨tC,h_hd⟩,λs v=>.of_eq rfl,λbase _ _ B=>Lo T B⟩
theorem walk {l:PySem.W.OpenLaw}{q:Program}{loose:List Str}{XP:(Str->Option Value)->Heap->Prop}{YP:World->Heap->Prop}{d:DefRec}{K:Params->PySem.W.Frag}{T:Addr} (hn:l.most=some 63) (hdf:d.params.defaults=[])
  (hY:∀ (w:World) (h:Heap),YP w h->(K w.params).In h/\h.get? T=some (PySem.W.tabObj #[])) (nt:∀ w:World,PySem.W.noTabs (K w.params)=true)
  (F:∀ (w:World) (mg:Str->Option Value) (fa:Addr) (h:Heap),(K w.params).In h->h.Ns mainGlobals mg->mg d.name=some (.ref fa) ->
   ∃ fd:FuncData,(∃ c,PySem.W.codeHdIn (K w.params) c T=true)/\(∀ (s:Shared) (u:Value),BindsTo s fd ⟨[u],[]⟩ [("_law_script", u)])/\∀ base:Heap,(K w.params).In base->base.Ns mainGlobals mg->BmAt mg base->FnOk l.prog w (K w.params) mg base CX0 8 fa fd ["_law_script"] (spLawT (K w.params) T lamPos)) :
  PySem.W.WalkO q loose XP YP l.row.toRowW d [] (λf vs=>PySem.call f vs):=
 L2.walk_ofT (n:=63) (k:=8) (x := "_law_script") (CX:=λ_=>CX0) (sp:=λw=>spLawT (K w.params) T lamPos) hn (by decide) hdf ⟨rfl,by decide,by decide⟩ hY nt F (λ_ _ a ns hl hT hS=>⟨a,ns,rfl,hS,hl,.inl hT,λ_=>rfl⟩) λ_ _ _ _ _ z=>z
end Sm
namespace PySem.W.Fast
def tw353904920911033357:Nat:=0
def tw15807757511864966419:Nat:=0
def tw1277980241208888143:Nat:=0
def tw15216404090230913653:Nat:=0
def tw6079811604600200814:Nat:=0
def tw1523381884383849066:Nat:=0
def tw4026868234464196084:Nat:=0
def tw4003390364197569217:Nat:=0
def tw9899172664096722193:Nat:=0
def tw15786100870633843411:Nat:=0
def tw7438915027953300580:Nat:=0
def tw17507259931972959940:Nat:=0
def tw13952455841382402479:Nat:=0
def tw8079276527252389361:Nat:=0
def tw1732156393600834854:Nat:=0
def tw4745584718022195784:Nat:=0
def tw2421608225683284610:Nat:=0
def tw3869015245773637101:Nat:=0
def tw12996930972297667562:Nat:=0
def tw1381381521317224281:Nat:=0
def tw16054638378903223246:Nat:=0
def tw14106588367049491692:Nat:=0
def tw16049027064993060001:Nat:=0
def tw6607423345611904339:Nat:=0
def tw5087785013004139783:Nat:=0
def tw6652876142208097265:Nat:=0
def tw11919245234196002229:Nat:=0
def tw4406194594684802235:Nat:=0
def tw15544499087248313950:Nat:=0
def tw9688602648805486111:Nat:=0
def tw2723485172063641734:Nat:=0
def tw12077405802254116374:Nat:=0
def tw12171227431747501306:Nat:=0
def tw14640926095729318389:Nat:=0
def tw9789456024117148713:Nat:=0
def tw17403676112216674467:Nat:=0
def tw6885294710077578589:Nat:=0
def tw1365026611807576439:Nat:=0
def tw8526843603262431374:Nat:=0
def tw17893648795017415377:Nat:=0
def tw17780556551451170666:Nat:=0
def tw13802244151713728861:Nat:=0
def tw12687677803424316972:Nat:=0
def tw3738642287123213580:Nat:=0
def tw14391912886939584874:Nat:=0
def tw12091822104492563964:Nat:=0
def tw14704975678279528899:Nat:=0
def tw8020351307605395013:Nat:=0
def tw13572986569808008115:Nat:=0
def tw3328781591150563183:Nat:=0
def tw1733843605402438177:Nat:=0
def tw1927454670083831268:Nat:=0
def tw5063745368721375623:Nat:=0
def tw7003746372895100431:Nat:=0
def tw8989850368634155467:Nat:=0
def tw2360005665996468862:Nat:=0
def tw4983165810909531318:Nat:=0
def tw6062409897811245034:Nat:=0
def tw3556337551238575772:Nat:=0
def tw17943343346043574303:Nat:=0
def tw11914699541656598655:Nat:=0
def tw15193005739884462341:Nat:=0
def tw16706428494288528051:Nat:=0
def tw7705654386569069406:Nat:=0
def tw11655453038945067479:Nat:=0
def tw16809221856363215551:Nat:=0
def tw721029150092758920:Nat:=0
def tw9077354099373442763:Nat:=0
def tw1492597556890478315:Nat:=0
def tw8176735362723821430:Nat:=0
def tw1643112657078430303:Nat:=0
def tw2219978616675176121:Nat:=0
def tw5945716227666014268:Nat:=0
def tw4038134179937232427:Nat:=0
def tw1552063485764536670:Nat:=0
def tw4111115362471136655:Nat:=0
def tw9559283748425455491:Nat:=0
def tw11938048396382197077:Nat:=0
def tw4171110516246556124:Nat:=0
def tw8305195881720652839:Nat:=0
def tw12429495848780029231:Nat:=0
def tw9159377654009142571:Nat:=0
def tw7658035349055233238:Nat:=0
def tw2262705081626142493:Nat:=0
def tw5542569083528387710:Nat:=0
def tw9674357334825287407:Nat:=0
def tw4604215678198750997:Nat:=0
def tw14647529067474146430:Nat:=0
def tw18069193482842887596:Nat:=0
def tw6751414326974791421:Nat:=0
def tw18360483662733387463:Nat:=0
def tw2487785200846098023:Nat:=0
def tw6109438148603002658:Nat:=0
def tw8030122309704307852:Nat:=0
def tw11245262670272668924:Nat:=0
def tw13831042912571000182:Nat:=0
def tw9262192595380043464:Nat:=0
def tw14287918464894002990:Nat:=0
def tw13880529470135666843:Nat:=0
def tw10164512576253767960:Nat:=0
def tw12836400944837542066:Nat:=0
def tw5295304395921689037:Nat:=0
def tw8160676740628509583:Nat:=0
def tw3348331553800695127:Nat:=0
def tw2655328631388447477:Nat:=0
def tw1561640087769788481:Nat:=0
def tw2819978330842746681:Nat:=0
def tw9305729300384475666:Nat:=0
def tw879599369119794538:Nat:=0
def tw10652829245955670793:Nat:=0
def tw1616963179268597494:Nat:=0
def tw10961485390164933662:Nat:=0
def tw18355970894553003988:Nat:=0
def tw17062134079583263032:Nat:=0
def tw16590883311891979294:Nat:=0
def tw16036624844433833761:Nat:=0
def tw760654649895906969:Nat:=0
def tw14671558915731253207:Nat:=0
def tw17610304617483919319:Nat:=0
def tw12830953100017047871:Nat:=0
def tw4497548568087250095:Nat:=0
def tw8505073455595278382:Nat:=0
def tw15349518669639423119:Nat:=0
def tw5034213921091460650:Nat:=0
def tw5460393999109223934:Nat:=0
def tw742369960858478768:Nat:=0
def tw18405733438339197288:Nat:=0
def tw13064379372011453650:Nat:=0
def tw16610466644373419216:Nat:=0
def tw490380891147122545:Nat:=0
def tw11864489274857479160:Nat:=0
def tw6700652692379879310:Nat:=0
def tw2513029126239196225:Nat:=0
def tw10416943883601608095:Nat:=0
def tw7283001836303250725:Nat:=0
def tw2773442791514212414:Nat:=0
def tw2219063082003844437:Nat:=0
end PySem.W.Fast
open PySem PySem.W PyProof.Rows
set_option maxRecDepth 100000 in
set_option maxHeartbeats 0 in
theorem PySem.Challenge.cw_satchelmeet_k31_whole_stands_any_missed_holds : PySem.Challenge.rw_satchelmeet_k31_whole_stands_any_missed.Holds := by
 w_on;o_law;k_head;(case hw=>w_witness2)
 k_fill
 refine Sm.walk (l:=PySem.Challenge.rw_satchelmeet_k31_whole_stands_any_missed) rfl rfl (λw h Y=>⟨PySem.W.km_in_of Y,PySem.W.km_tabs_of Y _ (List.Mem.head _)⟩) (λw=>by kernel_rfl) ?F
 case F=>
  intro w mg fa h KX G hmg
  refine' Sm.all_mk KX G hmg ?DF ?Fa ?Ba ?Bz ?Bt ?BX ?BQ ?Ch ?A9 ?By ?Bu ?BY ?AB ?AM ?Bv ?BZ ?Bs ?BW ?AQ ?Be ?BK ?Cb ?Bo ?BS ?Cs ?CV ?BM ?Cd ?Cr ?CU ?Br ?BV ?A8 ?Bx ?Ah ?Ao ?AI ?A2 ?Bn ?BR ?Aj ?Ap ?Bp ?BT ?Cu ?CY ?EU ?FH ?BI ?B9 ?BJ ?Ca ?AH ?A0 ?Cq ?CT ?Ai ?BG ?Aq ?Bb ?Ee ?Bc ?AR ?DJ ?AV ?Au ?CC ?Av ?Al ?B6 ?Am ?AT ?DK ?AW ?AU ?DL ?Bf ?Bq ?BU ?Ay ?AK ?As ?AF ?BO ?Cf ?BN ?Ce ?AO ?Bd ?BP ?Cg ?A7 ?Bw ?C7 ?Dz ?Ct ?CW ?EV ?FI ?BL ?Cc ?Cv ?CZ ?At ?AG ?AA ?AL ?AC ?AN ?FZ ?GW ?z_all ?z_bool ?z_enumerate ?z_int ?z_isinstance ?z_len ?z_list ?z_max ?z_min ?z_range ?z_set ?z_sorted ?z_tuple ?g_LAST_TIME ?g_MOST_WALKERS ?g_MOST_ROOM ?g_MOST_MEETINGS ?g_MOST_MANY ?HN ?Gb ?Gk ?Ga ?F5 ?Gf ?Gh ?nf_Stream_source ?nf_Stream_arcs ?nf_Stream_ends ?nf_Stream_spare ?h_cd ?h_hd
  (case HN=>k_is)
  (case DF=>k_is)
  (case Fa=>refine' L2.fun_mk ?x1 ?y1 ?z1;(case x1=>k_is);(case y1=>k_is);(case z1=>k_is))
  (case Ba=>k_is)
  (case Bz=>refine' L2.fun_mk ?x3 ?y3 ?z3;(case x3=>k_is);(case y3=>k_is);(case z3=>k_is))
  (case Bt=>k_is)
  (case BX=>refine' L2.fun_mk ?x5 ?y5 ?z5;(case x5=>k_is);(case y5=>k_is);(case z5=>k_is))
  (case BQ=>k_is)
  (case Ch=>refine' L2.fun_mk ?x7 ?y7 ?z7;(case x7=>k_is);(case y7=>k_is);(case z7=>k_is))
  (case A9=>k_is)
  (case By=>refine' L2.fun_mk ?x9 ?y9 ?z9;(case x9=>k_is);(case y9=>k_is);(case z9=>k_is))
  (case Bu=>k_is)
  (case BY=>refine' L2.fun_mk ?x11 ?y11 ?z11;(case x11=>k_is);(case y11=>k_is);(case z11=>k_is))
  (case AB=>k_is)
  (case AM=>refine' L2.fun_mk ?x13 ?y13 ?z13;(case x13=>k_is);(case y13=>k_is);(case z13=>k_is))
  (case Bv=>k_is)
  (case BZ=>refine' L2.fun_mk ?x15 ?y15 ?z15;(case x15=>k_is);(case y15=>k_is);(case z15=>k_is))
  (case Bs=>k_is)
  (case BW=>refine' L2.fun_mk ?x17 ?y17 ?z17;(case x17=>k_is);(case y17=>k_is);(case z17=>k_is))
  (case AQ=>k_is)
  (case Be=>refine' L2.fun_mk ?x19 ?y19 ?z19;(case x19=>k_is);(case y19=>k_is);(case z19=>k_is))
  (case BK=>k_is)
  (case Cb=>refine' L2.fun_mk ?x21 ?y21 ?z21;(case x21=>k_is);(case y21=>k_is);(case z21=>k_is))
  (case Bo=>k_is)
  (case BS=>refine' L2.fun_mk ?x23 ?y23 ?z23;(case x23=>k_is);(case y23=>k_is);(case z23=>k_is))
  (case Cs=>k_is)
  (case CV=>refine' L2.fun_mk ?x25 ?y25 ?z25;(case x25=>k_is);(case y25=>k_is);(case z25=>k_is))
  (case BM=>k_is)
  (case Cd=>refine' L2.fun_mk ?x27 ?y27 ?z27;(case x27=>k_is);(case y27=>k_is);(case z27=>k_is))
  (case Cr=>k_is)
  (case CU=>refine' L2.fun_mk ?x29 ?y29 ?z29;(case x29=>k_is);(case y29=>k_is);(case z29=>k_is))
  (case Br=>k_is)
  (case BV=>refine' L2.fun_mk ?x31 ?y31 ?z31;(case x31=>k_is);(case y31=>k_is);(case z31=>k_is))
  (case A8=>k_is)
  (case Bx=>refine' L2.fun_mk ?x33 ?y33 ?z33;(case x33=>k_is);(case y33=>k_is);(case z33=>k_is))
  (case Ah=>k_is)
  (case Ao=>refine' L2.fun_mk ?x35 ?y35 ?z35;(case x35=>k_is);(case y35=>k_is);(case z35=>k_is))
  (case AI=>k_is)
  (case A2=>refine' L2.fun_mk ?x37 ?y37 ?z37;(case x37=>k_is);(case y37=>k_is);(case z37=>k_is))
  (case Bn=>k_is)
  (case BR=>refine' L2.fun_mk ?x39 ?y39 ?z39;(case x39=>k_is);(case y39=>k_is);(case z39=>k_is))
  (case Aj=>k_is)
  (case Ap=>refine' L2.fun_mk ?x41 ?y41 ?z41;(case x41=>k_is);(case y41=>k_is);(case z41=>k_is))
  (case Bp=>k_is)
  (case BT=>refine' L2.fun_mk ?x43 ?y43 ?z43;(case x43=>k_is);(case y43=>k_is);(case z43=>k_is))
  (case Cu=>k_is)
  (case CY=>refine' L2.fun_mk ?x45 ?y45 ?z45;(case x45=>k_is);(case y45=>k_is);(case z45=>k_is))
  (case EU=>k_is)
  (case FH=>refine' L2.fun_mk ?x47 ?y47 ?z47;(case x47=>k_is);(case y47=>k_is);(case z47=>k_is))
  (case BI=>k_is)
  (case B9=>refine' L2.fun_mk ?x49 ?y49 ?z49;(case x49=>k_is);(case y49=>k_is);(case z49=>k_is))
  (case BJ=>k_is)
  (case Ca=>refine' L2.fun_mk ?x51 ?y51 ?z51;(case x51=>k_is);(case y51=>k_is);(case z51=>k_is))
  (case AH=>k_is)
  (case A0=>refine' L2.fun_mk ?x53 ?y53 ?z53;(case x53=>k_is);(case y53=>k_is);(case z53=>k_is))
  (case Cq=>k_is)
  (case CT=>refine' L2.fun_mk ?x55 ?y55 ?z55;(case x55=>k_is);(case y55=>k_is);(case z55=>k_is))
  (case Ai=>k_is)
  (case BG=>k_is)
  (case Aq=>refine' L2.fun_mk ?x58 ?y58 ?z58;(case x58=>k_is);(case y58=>k_is);(case z58=>k_is))
  (case Bb=>k_is)
  (case Ee=>k_is)
  (case Bc=>refine' L2.fun_mk ?x61 ?y61 ?z61;(case x61=>k_is);(case y61=>k_is);(case z61=>k_is))
  (case AR=>k_is)
  (case DJ=>k_is)
  (case AV=>refine' L2.fun_mk ?x64 ?y64 ?z64;(case x64=>k_is);(case y64=>k_is);(case z64=>k_is))
  (case Au=>k_is)
  (case CC=>k_is)
  (case Av=>refine' L2.fun_mk ?x67 ?y67 ?z67;(case x67=>k_is);(case y67=>k_is);(case z67=>k_is))
  (case Al=>k_is)
  (case B6=>k_is)
  (case Am=>refine' L2.fun_mk ?x70 ?y70 ?z70;(case x70=>k_is);(case y70=>k_is);(case z70=>k_is))
  (case AT=>k_is)
  (case DK=>k_is)
  (case AW=>refine' L2.fun_mk ?x73 ?y73 ?z73;(case x73=>k_is);(case y73=>k_is);(case z73=>k_is))
  (case AU=>k_is)
  (case DL=>k_is)
  (case Bf=>refine' L2.fun_mk ?x76 ?y76 ?z76;(case x76=>k_is);(case y76=>k_is);(case z76=>k_is))
  (case Bq=>k_is)
  (case BU=>refine' L2.fun_mk ?x78 ?y78 ?z78;(case x78=>k_is);(case y78=>k_is);(case z78=>k_is))
  (case Ay=>k_is)
  (case AK=>refine' L2.fun_mk ?x80 ?y80 ?z80;(case x80=>k_is);(case y80=>k_is);(case z80=>k_is))
  (case As=>k_is)
  (case AF=>refine' L2.fun_mk ?x82 ?y82 ?z82;(case x82=>k_is);(case y82=>k_is);(case z82=>k_is))
  (case BO=>k_is)
  (case Cf=>refine' L2.fun_mk ?x84 ?y84 ?z84;(case x84=>k_is);(case y84=>k_is);(case z84=>k_is))
  (case BN=>k_is)
  (case Ce=>refine' L2.fun_mk ?x86 ?y86 ?z86;(case x86=>k_is);(case y86=>k_is);(case z86=>k_is))
  (case AO=>k_is)
  (case Bd=>refine' L2.fun_mk ?x88 ?y88 ?z88;(case x88=>k_is);(case y88=>k_is);(case z88=>k_is))
  (case BP=>k_is)
  (case Cg=>refine' L2.fun_mk ?x90 ?y90 ?z90;(case x90=>k_is);(case y90=>k_is);(case z90=>k_is))
  (case A7=>k_is)
  (case Bw=>refine' L2.fun_mk ?x92 ?y92 ?z92;(case x92=>k_is);(case y92=>k_is);(case z92=>k_is))
  (case C7=>k_is)
  (case Dz=>refine' L2.fun_mk ?x94 ?y94 ?z94;(case x94=>k_is);(case y94=>k_is);(case z94=>k_is))
  (case Ct=>k_is)
  (case CW=>refine' L2.fun_mk ?x96 ?y96 ?z96;(case x96=>k_is);(case y96=>k_is);(case z96=>k_is))
  (case EV=>k_is)
  (case FI=>refine' L2.fun_mk ?x98 ?y98 ?z98;(case x98=>k_is);(case y98=>k_is);(case z98=>k_is))
  (case BL=>k_is)
  (case Cc=>refine' L2.fun_mk ?x100 ?y100 ?z100;(case x100=>k_is);(case y100=>k_is);(case z100=>k_is))
  (case Cv=>k_is)
  (case CZ=>refine' L2.fun_mk ?x102 ?y102 ?z102;(case x102=>k_is);(case y102=>k_is);(case z102=>k_is))
  (case At=>k_is)
  (case AG=>refine' L2.fun_mk ?x104 ?y104 ?z104;(case x104=>k_is);(case y104=>k_is);(case z104=>k_is))
  (case AA=>k_is)
  (case AL=>refine' L2.fun_mk ?x106 ?y106 ?z106;(case x106=>k_is);(case y106=>k_is);(case z106=>k_is))
  (case AC=>k_is)
  (case AN=>refine' L2.fun_mk ?x108 ?y108 ?z108;(case x108=>k_is);(case y108=>k_is);(case z108=>k_is))
  (case FZ=>k_is)
  (case GW=>refine' L2.fun_mk ?x110 ?y110 ?z110;(case x110=>k_is);(case y110=>k_is);(case z110=>k_is))
  (case z_all=>k_is)
  (case z_bool=>k_is)
  (case z_enumerate=>k_is)
  (case z_int=>k_is)
  (case z_isinstance=>k_is)
  (case z_len=>k_is)
  (case z_list=>k_is)
  (case z_max=>k_is)
  (case z_min=>k_is)
  (case z_range=>k_is)
  (case z_set=>k_is)
  (case z_sorted=>k_is)
  (case z_tuple=>k_is)
  (case g_LAST_TIME=>k_is)
  (case g_MOST_WALKERS=>k_is)
  (case g_MOST_ROOM=>k_is)
  (case g_MOST_MEETINGS=>k_is)
  (case g_MOST_MANY=>k_is)
  (case Gb=>k_is)
  (case Gk=>k_is)
  (case Ga=>k_is)
  (case F5=>k_is)
  (case Gf=>k_is)
  (case Gh=>k_is)
  (case nf_Stream_source=>k_is)
  (case nf_Stream_arcs=>k_is)
  (case nf_Stream_ends=>k_is)
  (case nf_Stream_spare=>k_is)
  (case h_cd=>rfl)
  (case h_hd=>kernel_rfl)

